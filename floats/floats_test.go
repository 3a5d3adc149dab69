package floats_test

import (
	"errors"
	"math"
	"slices"
	"testing"

	"liaison/api"
	"liaison/floats"
)

const (
	plainNaN = 0x7FF8000000000001
	greatest = math.MaxFloat64
	smallest = math.SmallestNonzeroFloat64
	normal   = 0x1p-1022
)

var (
	minusZero = math.Copysign(0, -1)
	infinity  = math.Inf(1)
	nan       = math.NaN()
)

// numbers is floats that aren't NaNs, each one once, in floats' order.
func numbers() []float64 {
	return []float64{
		math.Inf(-1), -greatest, -1e300, -3, math.Nextafter(-2, -3), -2, -1, -normal, math.Nextafter(-normal, 0), -2 * smallest, -smallest,
		minusZero, 0,
		smallest, 2 * smallest, math.Nextafter(normal, 0), normal, 1, 2, math.Nextafter(2, 3), 3, 1e300, greatest, infinity,
	}
}

// nans is NaNs: quiet, signaling and negative ones, with several bits behind.
func nans() []float64 {
	var list []float64
	for _, bits := range []uint64{
		plainNaN, 0x7FF8000000000000, 0x7FF0000000000001, 0x7FF4000000000000, 0x7FFFFFFFFFFFFFFF,
		0xFFF8000000000001, 0xFFF8000000000000, 0xFFF0000000000001, 0xFFFFFFFFFFFFFFFF,
	} {
		list = append(list, math.Float64frombits(bits))
	}
	return list
}

// all is numbers, then NaNs, then floats of bits that are spread over all of them.
func all() []float64 {
	list := append(numbers(), nans()...)
	bits := uint64(1)
	for range 60 {
		bits = bits*6364136223846793005 + 1442695040888963407
		list = append(list, math.Float64frombits(bits))
	}
	return list
}

// notDelays is floats that are neither a delay nor a time.
func notDelays() []float64 {
	return append([]float64{-smallest, -normal, -1, -greatest, math.Inf(-1)}, nans()...)
}

// delays is the delays of numbers, minus zero first.
func delays() []float64 {
	list := numbers()
	return list[slices.Index(list, 0):]
}

func same(a, b float64) bool {
	return math.Float64bits(a) == math.Float64bits(b)
}

// answers fails if a call's answer isn't that float with that error, or if there is a float beside an error.
func answers(t *testing.T, call string, x float64, err error, want float64, wantErr error) {
	t.Helper()
	if !errors.Is(err, wantErr) || (err == nil) != (wantErr == nil) || !same(x, want) {
		t.Errorf("%s answers %v (%x), %v, not %v, %v", call, x, math.Float64bits(x), err, want, wantErr)
	}
}

func TestDelaysHaveBothZeros(t *testing.T) {
	list := delays()
	if len(list) != 13 || !same(list[0], minusZero) || !same(list[1], 0) {
		t.Fatalf("the test's delays are %v", list)
	}
}

func TestOrder(t *testing.T) {
	list := numbers()
	for i, a := range list {
		for j, b := range list {
			want := 0
			if i < j {
				want = -1
			} else if i > j {
				want = 1
			}
			if got := floats.Order(a, b); got != want {
				t.Errorf("Order(%v, %v) answers %d, not %d", a, b, got, want)
			}
		}
	}
}

func TestOrderOfNaNs(t *testing.T) {
	for _, n := range nans() {
		for _, x := range numbers() {
			if floats.Order(n, x) != 1 || floats.Order(x, n) != -1 {
				t.Errorf("the NaN %x doesn't stand behind %v", math.Float64bits(n), x)
			}
		}
		for _, m := range nans() {
			if floats.Order(n, m) != 0 {
				t.Errorf("the NaNs %x and %x aren't the same", math.Float64bits(n), math.Float64bits(m))
			}
		}
	}
}

// TestOrderIsOne is P1.2: any two are in one order, the same seen from either side, and what stands behind what is behind stands behind.
func TestOrderIsOne(t *testing.T) {
	list := all()
	for _, a := range list {
		for _, b := range list {
			ab := floats.Order(a, b)
			if ab < -1 || ab > 1 || ab != -floats.Order(b, a) {
				t.Fatalf("Order(%v, %v) answers %d, turned %d", a, b, ab, floats.Order(b, a))
			}
			alike := same(a, b) || a != a && b != b
			if (ab == 0) != alike {
				t.Fatalf("Order(%v, %v) answers %d", a, b, ab)
			}
			for _, c := range list {
				if ab <= 0 && floats.Order(b, c) <= 0 && floats.Order(a, c) != min(ab, floats.Order(b, c)) {
					t.Fatalf("Order of %v, %v, %v isn't one", a, b, c)
				}
			}
		}
	}
}

func TestOrderFollowsNumbers(t *testing.T) {
	for _, a := range all() {
		for _, b := range all() {
			if a < b && floats.Order(a, b) != -1 || a > b && floats.Order(a, b) != 1 {
				t.Errorf("Order(%v, %v) answers %d", a, b, floats.Order(a, b))
			}
		}
	}
}

func TestPlain(t *testing.T) {
	for _, x := range all() {
		want := x
		switch {
		case x != x:
			want = math.Float64frombits(plainNaN)
		case same(x, minusZero):
			want = 0
		}
		if got := floats.Plain(x); !same(got, want) {
			t.Errorf("Plain(%v) answers %v (%x), not %v", x, got, math.Float64bits(got), want)
		}
		if got := floats.Bits(x); got != math.Float64bits(want) {
			t.Errorf("Bits(%v) answers %x, not %x", x, got, math.Float64bits(want))
		}
		if got := floats.From(math.Float64bits(x)); !same(got, want) {
			t.Errorf("From(%x) answers %v (%x), not %v", math.Float64bits(x), got, math.Float64bits(got), want)
		}
	}
}

func TestBits(t *testing.T) {
	for _, c := range []struct {
		x    float64
		bits uint64
	}{
		{0, 0}, {1, 0x3FF0000000000000}, {-2, 0xC000000000000000}, {smallest, 1}, {-smallest, 0x8000000000000001},
		{infinity, 0x7FF0000000000000}, {math.Inf(-1), 0xFFF0000000000000}, {nan, plainNaN},
	} {
		if got := floats.Bits(c.x); got != c.bits {
			t.Errorf("Bits(%v) answers %x, not %x", c.x, got, c.bits)
		}
		if got := floats.From(c.bits); !same(got, c.x) {
			t.Errorf("From(%x) answers %v, not %v", c.bits, got, c.x)
		}
	}
	if floats.Bits(minusZero) != 0 || !same(floats.From(0x8000000000000000), 0) {
		t.Error("minus zero's bits aren't zero's")
	}
}

func TestFinite(t *testing.T) {
	for _, x := range numbers() {
		if want := x != infinity && x != math.Inf(-1); floats.Finite(x) != want {
			t.Errorf("Finite(%v) answers %v", x, !want)
		}
	}
	for _, x := range nans() {
		if floats.Finite(x) {
			t.Errorf("the NaN %x is Finite", math.Float64bits(x))
		}
	}
}

func TestDelay(t *testing.T) {
	for _, x := range delays() {
		got, err := floats.Delay(x)
		answers(t, "Delay", got, err, floats.Plain(x), nil)
	}
	for _, x := range notDelays() {
		got, err := floats.Delay(x)
		answers(t, "Delay of none", got, err, 0, api.ErrForm)
	}
}

func TestLater(t *testing.T) {
	for _, c := range []struct{ now, delay, want float64 }{
		{0, 0, 0}, {1, 2, 3}, {0.5, 0.25, 0.75}, {smallest, smallest, 2 * smallest},
		{1e300, 1, 1e300}, {greatest, 1, greatest}, {greatest, greatest, infinity}, {greatest, math.Ldexp(1, 970), infinity},
		{1, infinity, infinity}, {infinity, 1, infinity}, {infinity, 0, infinity}, {infinity, infinity, infinity},
		{minusZero, 0, 0}, {0, minusZero, 0}, {minusZero, 4, 4}, {4, minusZero, 4}, {minusZero, infinity, infinity},
		// The sum of two minus zeros is minus zero by IEEE 754; the chapter asks for no plain form here.
		{minusZero, minusZero, minusZero},
	} {
		got, err := floats.Later(c.now, c.delay)
		answers(t, "Later", got, err, c.want, nil)
	}
	for _, x := range notDelays() {
		for _, y := range all() {
			got, err := floats.Later(x, y)
			answers(t, "Later than no time", got, err, 0, api.ErrForm)
			got, err = floats.Later(y, x)
			answers(t, "Later by no delay", got, err, 0, api.ErrForm)
		}
	}
}

func TestDue(t *testing.T) {
	list := delays()
	for i, now := range list {
		for j, at := range list {
			// Zero isn't above minus zero: the first two are one time.
			if want := j <= i || j <= 1; floats.Due(now, at) != want {
				t.Errorf("Due(%v, %v) answers %v", now, at, !want)
			}
		}
	}
	if !floats.Due(infinity, infinity) || floats.Due(greatest, infinity) {
		t.Error("infinity isn't due just at infinity")
	}
	for _, x := range notDelays() {
		for _, y := range all() {
			if floats.Due(x, y) || floats.Due(y, x) {
				t.Errorf("something is Due of %v and %v", x, y)
			}
		}
	}
}

func TestLeast(t *testing.T) {
	for _, c := range []struct {
		list []float64
		want float64
	}{
		{nil, infinity}, {[]float64{}, infinity}, {nans(), infinity}, {[]float64{infinity}, infinity},
		{[]float64{3, 1, 2}, 1}, {[]float64{1, 2, 3}, 1}, {[]float64{3, 2, 1}, 1},
		{[]float64{nan, 5, nan}, 5}, {[]float64{5, nan}, 5}, {[]float64{nan, infinity}, infinity},
		{[]float64{0, minusZero}, 0}, {[]float64{minusZero, 0}, 0}, {[]float64{minusZero}, 0}, {[]float64{minusZero, 1}, 0},
		{[]float64{1, -1, 0}, -1}, {[]float64{0, math.Inf(-1), nan}, math.Inf(-1)}, {[]float64{minusZero, -smallest}, -smallest},
	} {
		if got := floats.Least(c.list...); !same(got, c.want) {
			t.Errorf("Least(%v) answers %v, not %v", c.list, got, c.want)
		}
	}
}

func TestLeastIsNoGreater(t *testing.T) {
	list := all()
	for i := range list {
		for j := range list[i:] {
			piece := list[i : i+j]
			least := floats.Least(piece...)
			for _, x := range piece {
				if floats.Order(floats.Plain(x), least) < 0 {
					t.Fatalf("Least(%v) answers %v", piece, least)
				}
			}
		}
	}
}

func TestLeastLeavesTheList(t *testing.T) {
	list := []float64{3, minusZero, nan, 1}
	floats.Least(list...)
	for i, want := range []float64{3, minusZero, nan, 1} {
		if !same(list[i], want) {
			t.Errorf("place %d of the list has become %v", i, list[i])
		}
	}
}

func TestBackoff(t *testing.T) {
	for _, c := range []struct {
		base  float64
		times int
		most  float64
		want  float64
	}{
		{1, 0, 5, 1}, {1, 1, 5, 2}, {1, 2, 5, 4}, {1, 3, 5, 5}, {1, 4, 5, 5}, {1, 3, 8, 8}, {0.75, 2, 8, 3},
		{7, 0, 5, 5}, {7, 3, 5, 5}, {1, 3, 0, 0}, {1, 0, minusZero, 0},
		{0, 0, 5, 0}, {0, 9, 5, 0}, {minusZero, 0, 5, 0}, {minusZero, 9, 5, 0}, {0, math.MaxInt, infinity, 0}, {minusZero, math.MaxInt, infinity, 0},
		{1, math.MaxInt, 5, 5}, {1, math.MaxInt, infinity, infinity}, {smallest, math.MaxInt, greatest, greatest}, {smallest, math.MaxInt, infinity, infinity},
		{smallest, 1074, infinity, 1}, {1, 1023, infinity, 0x1p1023}, {1, 1024, infinity, infinity}, {1, 1024, greatest, greatest}, {3, 1023, greatest, greatest},
		{infinity, 0, infinity, infinity}, {infinity, 3, infinity, infinity}, {infinity, 0, 5, 5}, {infinity, 3, 5, 5}, {infinity, 1, 0, 0},
	} {
		got, err := floats.Backoff(c.base, c.times, c.most)
		answers(t, "Backoff", got, err, c.want, nil)
	}
}

func TestBackoffDoubles(t *testing.T) {
	for _, base := range delays() {
		for _, most := range delays() {
			doubled := base
			for times := range 2200 {
				got, err := floats.Backoff(base, times, most)
				answers(t, "Backoff", got, err, floats.Plain(min(doubled, most)), nil)
				doubled += doubled
			}
		}
	}
}

func TestBackoffErrors(t *testing.T) {
	for _, times := range []int{-1, -2, math.MinInt} {
		for _, x := range delays() {
			got, err := floats.Backoff(x, times, 5)
			answers(t, "Backoff of less than 0 times", got, err, 0, api.ErrRange)
		}
	}
	for _, times := range []int{math.MinInt, -1, 0, 1, math.MaxInt} {
		for _, x := range notDelays() {
			for _, y := range all() {
				got, err := floats.Backoff(x, times, y)
				answers(t, "Backoff of no base", got, err, 0, api.ErrForm)
				got, err = floats.Backoff(y, times, x)
				answers(t, "Backoff of no most", got, err, 0, api.ErrForm)
			}
		}
	}
}
