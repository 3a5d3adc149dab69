package scope_test

import (
	"encoding/binary"
	"math"
	"math/big"

	"liaison/api"
	"liaison/fields"
)

// The chapter's words, one by one, with its numbers written out: what the calls are held against.

// plainNaN is the bits of the plain form of all NaNs.
const plainNaN = 0x7FF8000000000001

// isTime tells whether a float is a time.
func isTime(x float64) bool {
	return x == 0 || x > 0
}

// isPlain tells whether a float is its plain form.
func isPlain(x float64) bool {
	bits := math.Float64bits(x)
	return bits != 1<<63 && (x == x || bits == plainNaN)
}

// named tells whether an activity has a text.
func named(a api.Act) bool {
	return a.Node >= 0 && a.Node <= 3 && a.Seq >= 0 && a.Seq <= 999999
}

// right tells whether a context is right.
func right(c api.Context) bool {
	return named(c.Act) && (c.Outcome == 1 || c.Outcome == 2) && c.Depth >= 0 && c.Depth <= 3 && isTime(c.Expires) && isPlain(c.Expires)
}

// open tells whether a context is open.
func open(c api.Context, now float64) bool {
	return right(c) && isTime(now) && now < c.Expires
}

// opened is a new activity's context, and the error.
func opened(a api.Act, outcome int, now, lasts float64) (api.Context, error) {
	if !named(a) {
		return api.Context{}, api.ErrRange
	}
	if outcome != 1 && outcome != 2 || !isTime(now) || !isTime(lasts) {
		return api.Context{}, api.ErrForm
	}
	// To the sum's plain form: no sum of two times but that of two minus zeros hasn't it.
	return api.Context{Act: a, Outcome: outcome, Expires: math.Abs(now + lasts)}, nil
}

// nested is the context of an activity within another one, and the error.
func nested(c api.Context, a api.Act, outcome int) (api.Context, error) {
	switch {
	case !right(c):
		return api.Context{}, api.ErrForm
	case !named(a):
		return api.Context{}, api.ErrRange
	case outcome != 1 && outcome != 2:
		return api.Context{}, api.ErrForm
	case c.Depth == 3:
		return api.Context{}, api.ErrDepth
	}
	c.Act, c.Outcome, c.Depth = a, outcome, c.Depth+1
	return c, nil
}

// encoded is a context's bytes, and the error.
func encoded(c api.Context) (string, error) {
	if !right(c) {
		return "", api.ErrForm
	}
	b := ""
	for i, n := range []int{c.Act.Node, c.Act.Seq, c.Outcome, c.Depth} {
		if digits := big.NewInt(int64(n)).Bytes(); n != 0 {
			b += string([]byte{byte(i + 1), 0, byte(len(digits))}) + string(digits)
		}
	}
	return b + "\x05\x00\x08" + string(binary.BigEndian.AppendUint64(nil, math.Float64bits(c.Expires))), nil
}

// decoded is bytes' context, and the error.
func decoded(b []byte) (api.Context, error) {
	row, err := fields.Split(b)
	if err != nil {
		return api.Context{}, err
	}
	var n [5]int
	expires, there := 0.0, false
	for _, f := range row {
		if f.Tag > 5 {
			return api.Context{}, api.ErrForm
		}
		if f.Tag == 5 {
			if len(f.Data) != 8 {
				return api.Context{}, api.ErrForm
			}
			expires, there = math.Float64frombits(binary.BigEndian.Uint64(f.Data)), true
			continue
		}
		digits := new(big.Int).SetBytes(f.Data)
		if len(f.Data) == 0 || f.Data[0] == 0 || !digits.IsInt64() {
			return api.Context{}, api.ErrForm
		}
		n[f.Tag] = int(digits.Int64())
	}
	c := api.Context{Act: api.Act{Node: n[1], Seq: n[2]}, Outcome: n[3], Depth: n[4], Expires: expires}
	if !there || !right(c) {
		return api.Context{}, api.ErrForm
	}
	return c, nil
}

// alike tells whether contexts are the same, Expires by its very bits.
func alike(a, b api.Context) bool {
	bits := math.Float64bits(a.Expires) == math.Float64bits(b.Expires)
	a.Expires, b.Expires = 0, 0
	return bits && a == b
}

// plain is a context with Expires in its plain form.
func plain(c api.Context) api.Context {
	if c.Expires == 0 {
		c.Expires = 0
	}
	if c.Expires != c.Expires {
		c.Expires = math.Float64frombits(plainNaN)
	}
	return c
}
