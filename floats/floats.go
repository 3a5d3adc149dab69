// Package floats is layer 1: see shared/doc/01-floats.md.
package floats

import (
	"cmp"
	"math"

	"liaison/api"
)

// plainNaN is the bits of the one NaN that all others become.
const plainNaN = 0x7FF8000000000001

// signBit is the bit that floats below 0, and minus zero, have.
const signBit = 1 << 63

// Order is floats' order.
func Order(a, b float64) int {
	return cmp.Compare(place(a), place(b))
}

// place is a number that rises as floats' order does, so that the order is one because that of numbers is.
func place(x float64) uint64 {
	if math.IsNaN(x) {
		return math.MaxUint64
	}
	bits := math.Float64bits(x)
	if bits&signBit != 0 {
		// Behind the sign, bits rise as floats fall.
		return ^bits
	}
	return bits | signBit
}

// Plain is a float's plain form.
func Plain(x float64) float64 {
	if math.IsNaN(x) {
		return math.Float64frombits(plainNaN)
	}
	if x == 0 {
		// Minus zero is equal to zero.
		return 0
	}
	return x
}

// Delay asks whether a float is a delay.
func Delay(x float64) (float64, error) {
	if !isDelay(x) {
		return 0, api.ErrForm
	}
	return Plain(x), nil
}

// isDelay tells whether a float is a delay, or a time: minus zero is one, no NaN is.
func isDelay(x float64) bool {
	return x >= 0
}

// Later is a time behind a time.
func Later(now, delay float64) (float64, error) {
	if !isDelay(now) || !isDelay(delay) {
		return 0, api.ErrForm
	}
	return now + delay, nil
}

// Due tells whether a time has come.
func Due(now, at float64) bool {
	return isDelay(now) && isDelay(at) && at <= now
}

// Least is the first one of a list.
func Least(list ...float64) float64 {
	least := math.Inf(1)
	for _, x := range list {
		// A NaN stands behind infinity: it is never the lesser one.
		if Order(x, least) < 0 {
			least = x
		}
	}
	return Plain(least)
}

// Backoff is a delay that is doubled.
func Backoff(base float64, times int, most float64) (float64, error) {
	if !isDelay(base) || !isDelay(most) {
		return 0, api.ErrForm
	}
	if times < 0 {
		return 0, api.ErrRange
	}
	x := base
	for range times {
		// Zero stays as it is, all others come to most: no count is too great to end soon.
		if x == 0 || x >= most {
			break
		}
		x *= 2
	}
	return Plain(min(x, most)), nil
}

// Bits is the bits of the plain form.
func Bits(x float64) uint64 {
	return math.Float64bits(Plain(x))
}

// From is the float of bits.
func From(bits uint64) float64 {
	return Plain(math.Float64frombits(bits))
}

// Finite tells whether it is a number.
func Finite(x float64) bool {
	return !math.IsNaN(x) && !math.IsInf(x, 0)
}
