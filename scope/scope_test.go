package scope_test

import (
	"bytes"
	"encoding/hex"
	"math"
	"slices"
	"strings"
	"testing"

	"liaison/api"
	"liaison/fields"
	"liaison/scope"
)

// is tells whether an error is the very one that is wanted, nil too.
func is(err, want error) bool {
	if err == nil || want == nil {
		return err == nil && want == nil
	}
	return err == want
}

// dice answers numbers that are spread, the same ones each time.
func dice(seed uint64) func(below int) int {
	return func(below int) int {
		seed = seed*6364136223846793005 + 1442695040888963407
		return int(seed>>33) % below
	}
}

// raw is the bytes of a text of hexadecimal digits, blanks between them.
func raw(text string) []byte {
	b, err := hex.DecodeString(strings.ReplaceAll(text, " ", ""))
	if err != nil {
		panic(err)
	}
	return b
}

var (
	infinity  = math.Inf(1)
	minusZero = math.Copysign(0, -1)
)

// sample is a right context, and its bytes.
type sample struct {
	c api.Context
	b []byte
}

// samples is right contexts, with their bytes written by hand: ordinary ones, and such as have each number's edges.
func samples() []sample {
	return []sample{
		{api.Context{Act: api.Act{Node: 0, Seq: 1}, Outcome: api.Atomic, Expires: infinity}, raw("02000101 03000101 050008 7ff0000000000000")},
		{api.Context{Outcome: api.Atomic}, raw("03000101 050008 0000000000000000")},
		{api.Context{Outcome: api.Mixed, Expires: 1}, raw("03000102 050008 3ff0000000000000")},
		{api.Context{Act: api.Act{Node: 1}, Outcome: api.Mixed, Depth: 1, Expires: 2.5}, raw("01000101 03000102 04000101 050008 4004000000000000")},
		{api.Context{Act: api.Act{Node: 2, Seq: 17}, Outcome: api.Atomic, Depth: 2, Expires: math.SmallestNonzeroFloat64}, raw("01000102 02000111 03000101 04000102 050008 0000000000000001")},
		{api.Context{Act: api.Act{Node: 3, Seq: 999999}, Outcome: api.Mixed, Depth: 3, Expires: math.MaxFloat64}, raw("01000103 0200030f423f 03000102 04000103 050008 7fefffffffffffff")},
		{api.Context{Act: api.Act{Seq: 255}, Outcome: api.Atomic, Expires: 5}, raw("020001ff 03000101 050008 4014000000000000")},
		{api.Context{Act: api.Act{Seq: 256}, Outcome: api.Atomic, Depth: 3, Expires: 0.1}, raw("0200020100 03000101 04000103 050008 3fb999999999999a")},
		{api.Context{Act: api.Act{Node: 1, Seq: 65535}, Outcome: api.Mixed, Expires: 1e300}, raw("01000101 020002ffff 03000102 050008 7e37e43c8800759c")},
		{api.Context{Act: api.Act{Seq: 65536}, Outcome: api.Mixed, Expires: 0x1p50}, raw("020003010000 03000102 050008 4310000000000000")},
	}
}

// strange is numbers, most of them out of all ranges: at the edges, and such as are right in fewer bits.
func strange() []int {
	list := []int{
		-1, -2, -255, -256, 255, 256, 257, 258, 65536, 999998, 999999, 1000000, 1000001, 1 << 24, math.MaxInt32, 1 << 31, 1<<32 - 1, 1 << 32, 1<<32 + 1, 1<<32 + 2,
		math.MinInt32, -1 << 32, -1<<32 + 1, 1<<56 + 1, math.MaxInt - 1, math.MaxInt, math.MinInt, math.MinInt + 1,
	}
	for n := range 9 {
		list = append(list, n)
	}
	return list
}

// times is floats that are times, minus zero ahead, each less than the next one but for both zeros.
func times() []float64 {
	return []float64{
		minusZero, 0, math.SmallestNonzeroFloat64, 2 * math.SmallestNonzeroFloat64, 0x1p-1022, 0.5, math.Nextafter(1, 0), 1, math.Nextafter(1, 2), 2, 5, 0x1p50, 1e300,
		math.Nextafter(math.MaxFloat64, 0), math.MaxFloat64, infinity,
	}
}

// noTimes is floats that aren't times: numbers below 0, and NaNs of several bits, the plain one first.
func noTimes() []float64 {
	list := []float64{-math.SmallestNonzeroFloat64, -0x1p-1022, -1, -5, -1e300, -math.MaxFloat64, math.Inf(-1)}
	for _, bits := range []uint64{plainNaN, 0x7FF8000000000000, 0x7FF0000000000001, 0x7FFFFFFFFFFFFFFF, 0xFFF8000000000001, 0xFFF8000000000000, 0xFFFFFFFFFFFFFFFF} {
		list = append(list, math.Float64frombits(bits))
	}
	return list
}

// allFloats is times, and floats that are none.
func allFloats() []float64 {
	return append(times(), noTimes()...)
}

// with is a context with another number: at 1 to 4 those of their tags.
func with(c api.Context, tag, n int) api.Context {
	*[]*int{&c.Act.Node, &c.Act.Seq, &c.Outcome, &c.Depth}[tag-1] = n
	return c
}

func TestLimits(t *testing.T) {
	if api.MaxNodes != 4 || api.MaxSeq != 1000000 || api.MaxDepth != 3 || api.Atomic != 1 || api.Mixed != 2 {
		t.Fatalf("the tests are made for other limits than %d nodes, %d numbers, %d deep, outcomes %d, %d", api.MaxNodes, api.MaxSeq, api.MaxDepth, api.Atomic, api.Mixed)
	}
}

// encodes fails if Right or Encode doesn't answer what the chapter says, or what is encoded isn't decoded to the same; it answers whether the context is right.
func encodes(t *testing.T, c api.Context) bool {
	t.Helper()
	want, wantErr := encoded(c)
	if got := scope.Right(c); got != (wantErr == nil) {
		t.Fatalf("Right(%+v) answers %v", c, got)
	}
	b, err := scope.Encode(c)
	if !is(err, wantErr) || string(b) != want || err != nil && b != nil {
		t.Fatalf("Encode(%+v) answers %x, %v, not %x, %v", c, b, err, want, wantErr)
	}
	if err != nil {
		return false
	}
	if back, err := scope.Decode(b); err != nil || !alike(back, c) {
		t.Fatalf("what is encoded of %+v is decoded to %+v, %v", c, back, err)
	}
	return true
}

// decodes fails if Decode doesn't answer what the chapter says, or what is decoded isn't encoded to the same bytes; it answers whether there is a context.
func decodes(t *testing.T, b []byte) bool {
	t.Helper()
	was := bytes.Clone(b)
	c, err := scope.Decode(b)
	if want, wantErr := decoded(was); !is(err, wantErr) || !alike(c, want) {
		t.Fatalf("Decode(%x) answers %+v, %v, not %+v, %v", was, c, err, want, wantErr)
	}
	if !bytes.Equal(b, was) {
		t.Fatalf("Decode changes %x to %x", was, b)
	}
	if err != nil {
		return false
	}
	if again, err := scope.Encode(c); err != nil || !bytes.Equal(again, was) {
		t.Fatalf("what is decoded of %x is encoded to %x, %v", was, again, err)
	}
	return true
}

func TestSamples(t *testing.T) {
	for _, s := range samples() {
		if !scope.Right(s.c) {
			t.Errorf("Right(%+v) answers false", s.c)
		}
		if b, err := scope.Encode(s.c); err != nil || !bytes.Equal(b, s.b) {
			t.Errorf("Encode(%+v) answers %x, %v, not %x", s.c, b, err, s.b)
		}
		if c, err := scope.Decode(s.b); err != nil || !alike(c, s.c) {
			t.Errorf("Decode(%x) answers %+v, %v, not %+v", s.b, c, err, s.c)
		}
		if !scope.Same(s.c, s.c) {
			t.Errorf("Same of %+v with itself answers false", s.c)
		}
	}
}

// TestOneNumberStrange is of right contexts in which each number in turn is each one of many.
func TestOneNumberStrange(t *testing.T) {
	for _, s := range samples() {
		for tag := 1; tag <= 4; tag++ {
			for _, n := range strange() {
				encodes(t, with(s.c, tag, n))
			}
		}
		for _, x := range allFloats() {
			c := s.c
			c.Expires = x
			if want := slices.Contains(times()[1:], x) && math.Float64bits(x) != 1<<63; encodes(t, c) != want {
				t.Errorf("of Expires %v (%x) it is right: %v", x, math.Float64bits(x), !want)
			}
		}
	}
}

// TestThereAndBack is of all contexts about the edges of their numbers, of all times.
func TestThereAndBack(t *testing.T) {
	seen := map[string]bool{}
	for node := -1; node <= 4; node++ {
		for _, seq := range []int{-1, 0, 1, 255, 256, 65535, 65536, 999999, 1000000} {
			for outcome := -1; outcome <= 3; outcome++ {
				for depth := -1; depth <= 4; depth++ {
					for _, x := range allFloats() {
						c := api.Context{Act: api.Act{Node: node, Seq: seq}, Outcome: outcome, Depth: depth, Expires: x}
						if encodes(t, c) {
							b, _ := scope.Encode(c)
							seen[string(b)] = true
						}
					}
				}
			}
		}
	}
	if want := 4 * 7 * 2 * 4 * 15; len(seen) != want {
		t.Errorf("%d contexts have bytes of their own, not %d", len(seen), want)
	}
}

func TestNew(t *testing.T) {
	a := api.Act{Node: 2, Seq: 17}
	for _, c := range []struct{ now, lasts, want float64 }{
		{5, 10, 15}, {0, 0, 0}, {0, 1, 1}, {1, 0, 1}, {0.5, 0.25, 0.75}, {5, infinity, infinity}, {infinity, 5, infinity}, {infinity, 0, infinity}, {infinity, infinity, infinity},
		{math.MaxFloat64, math.MaxFloat64, infinity}, {math.MaxFloat64, 1, math.MaxFloat64}, {1e300, 1, 1e300},
		{minusZero, 0, 0}, {0, minusZero, 0}, {minusZero, 3, 3}, {3, minusZero, 3},
		// Of two minus zeros the sum is minus zero; the context is right all the same.
		{minusZero, minusZero, 0},
	} {
		for _, outcome := range []int{api.Atomic, api.Mixed} {
			want := api.Context{Act: a, Outcome: outcome, Expires: c.want}
			if got, err := scope.New(a, outcome, c.now, c.lasts); err != nil || !alike(got, want) {
				t.Errorf("New(%v, %d, %v, %v) answers %+v, %v, not %+v", a, outcome, c.now, c.lasts, got, err, want)
			}
		}
	}
}

func TestNewErrors(t *testing.T) {
	nan := math.NaN()
	for _, c := range []struct {
		a          api.Act
		outcome    int
		now, lasts float64
		want       error
	}{
		{api.Act{Node: -1}, api.Atomic, 5, 5, api.ErrRange}, {api.Act{Node: 4}, api.Atomic, 5, 5, api.ErrRange},
		{api.Act{Seq: -1}, api.Mixed, 5, 5, api.ErrRange}, {api.Act{Seq: 1000000}, api.Mixed, 5, 5, api.ErrRange},
		{api.Act{}, 0, 5, 5, api.ErrForm}, {api.Act{}, 3, 5, 5, api.ErrForm}, {api.Act{}, -1, 5, 5, api.ErrForm}, {api.Act{}, 1<<32 + 1, 5, 5, api.ErrForm},
		{api.Act{}, api.Atomic, -1, 5, api.ErrForm}, {api.Act{}, api.Atomic, 5, -1, api.ErrForm}, {api.Act{}, api.Atomic, -1, -1, api.ErrForm},
		{api.Act{}, api.Atomic, nan, 5, api.ErrForm}, {api.Act{}, api.Atomic, 5, nan, api.ErrForm}, {api.Act{}, api.Atomic, -infinity, infinity, api.ErrForm},
		{api.Act{}, api.Atomic, infinity, -5, api.ErrForm}, {api.Act{}, api.Atomic, -5, infinity, api.ErrForm}, {api.Act{}, api.Atomic, 8, -5, api.ErrForm},
		{api.Act{Node: 4}, 0, nan, nan, api.ErrRange}, {api.Act{Node: 4}, 0, 5, 5, api.ErrRange}, {api.Act{Seq: -1}, api.Atomic, -1, 5, api.ErrRange}, {api.Act{Seq: -1}, api.Atomic, 5, nan, api.ErrRange},
	} {
		if got, err := scope.New(c.a, c.outcome, c.now, c.lasts); !is(err, c.want) || !alike(got, api.Context{}) {
			t.Errorf("New(%v, %d, %v, %v) answers %+v, %v, not %v", c.a, c.outcome, c.now, c.lasts, got, err, c.want)
		}
	}
}

// acts is activities with a text and without one.
func acts() []api.Act {
	var list []api.Act
	for _, node := range []int{-1, 0, 3, 4, math.MinInt, 1 << 32} {
		for _, seq := range []int{-1, 0, 7, 999999, 1000000, math.MaxInt, -1 << 32} {
			list = append(list, api.Act{Node: node, Seq: seq})
		}
	}
	return list
}

func TestNewOfAll(t *testing.T) {
	for _, a := range acts() {
		for outcome := -1; outcome <= 3; outcome++ {
			for _, now := range allFloats() {
				for _, lasts := range allFloats() {
					got, err := scope.New(a, outcome, now, lasts)
					if want, wantErr := opened(a, outcome, now, lasts); !is(err, wantErr) || !alike(got, want) {
						t.Fatalf("New(%v, %d, %v, %v) answers %+v, %v, not %+v, %v", a, outcome, now, lasts, got, err, want, wantErr)
					}
					if err == nil && !scope.Right(got) {
						t.Fatalf("New(%v, %d, %v, %v) answers %+v, which isn't right", a, outcome, now, lasts, got)
					}
				}
			}
		}
	}
}

// TestChildren is of activities one within the other, down to the deepest ones.
func TestChildren(t *testing.T) {
	for _, expires := range times()[1:] {
		c := api.Context{Act: api.Act{Node: 1, Seq: 1}, Outcome: api.Atomic, Expires: expires}
		for depth := 1; depth <= 3; depth++ {
			a, outcome := api.Act{Node: depth, Seq: 10 * depth}, 1+depth%2
			d, err := scope.Child(c, a, outcome)
			want := api.Context{Act: a, Outcome: outcome, Depth: depth, Expires: expires}
			if err != nil || !alike(d, want) {
				t.Fatalf("Child(%+v, %v, %d) answers %+v, %v, not %+v", c, a, outcome, d, err, want)
			}
			c = d
		}
		if d, err := scope.Child(c, api.Act{}, api.Atomic); !is(err, api.ErrDepth) || !alike(d, api.Context{}) {
			t.Fatalf("Child of depth 3 answers %+v, %v", d, err)
		}
	}
}

func TestChildErrors(t *testing.T) {
	c := api.Context{Act: api.Act{Node: 1, Seq: 1}, Outcome: api.Atomic, Expires: 5}
	deepest := with(c, 4, 3)
	a, none := api.Act{Seq: 2}, api.Act{Node: 4}
	minus := c
	minus.Expires = minusZero
	for _, x := range []struct {
		what    string
		c       api.Context
		a       api.Act
		outcome int
		want    error
	}{
		{"no context", api.Context{}, a, api.Atomic, api.ErrForm},
		{"a context of no outcome", with(c, 3, 3), a, api.Atomic, api.ErrForm},
		{"a context of no activity", with(c, 1, 4), a, api.Atomic, api.ErrForm},
		{"a context above all", with(c, 4, -1), a, api.Atomic, api.ErrForm},
		{"a context too deep", with(c, 4, 4), a, api.Atomic, api.ErrForm},
		{"a context that expires at minus zero", minus, a, api.Atomic, api.ErrForm},
		{"a context too deep, and no activity", with(c, 4, 4), none, 0, api.ErrForm},
		{"a wrong context, and no activity", with(c, 2, -1), none, api.Atomic, api.ErrForm},
		{"no activity", c, none, api.Atomic, api.ErrRange},
		{"no number", c, api.Act{Seq: 1000000}, api.Mixed, api.ErrRange},
		{"no activity, and no outcome", c, none, 0, api.ErrRange},
		{"no activity, of the deepest", deepest, none, api.Atomic, api.ErrRange},
		{"no activity, no outcome, of the deepest", deepest, none, 3, api.ErrRange},
		{"outcome 0", c, a, 0, api.ErrForm},
		{"outcome 3", c, a, 3, api.ErrForm},
		{"no outcome, of the deepest", deepest, a, 0, api.ErrForm},
		{"the deepest", deepest, a, api.Mixed, api.ErrDepth},
	} {
		if got, err := scope.Child(x.c, x.a, x.outcome); !is(err, x.want) || !alike(got, api.Context{}) {
			t.Errorf("Child of %s answers %+v, %v, not %v", x.what, got, err, x.want)
		}
	}
}

func TestChildOfAll(t *testing.T) {
	for _, above := range acts() {
		for depth := -1; depth <= 4; depth++ {
			for _, expires := range allFloats() {
				c := api.Context{Act: above, Outcome: 1 + (depth+2)%3, Depth: depth, Expires: expires}
				for _, a := range acts() {
					for outcome := 0; outcome <= 3; outcome++ {
						got, err := scope.Child(c, a, outcome)
						if want, wantErr := nested(c, a, outcome); !is(err, wantErr) || !alike(got, want) {
							t.Fatalf("Child(%+v, %v, %d) answers %+v, %v, not %+v, %v", c, a, outcome, got, err, want, wantErr)
						}
					}
				}
			}
		}
	}
}

func TestOpen(t *testing.T) {
	list := times()
	for i, expires := range list {
		c := api.Context{Act: api.Act{Node: 1, Seq: 1}, Outcome: api.Mixed, Depth: 2, Expires: expires}
		for j, now := range list {
			// Minus zero isn't less than zero; at minus zero no right context expires.
			want := j < i && i > 1
			if got := scope.Open(c, now); got != want {
				t.Errorf("Open at %v of a context that expires at %v answers %v", now, expires, got)
			}
		}
		for _, now := range noTimes() {
			if scope.Open(c, now) {
				t.Errorf("at %v, which is no time, a context is open", now)
			}
		}
	}
}

// TestOpenOfWrong is of contexts that aren't right, for one reason each.
func TestOpenOfWrong(t *testing.T) {
	c := api.Context{Act: api.Act{Node: 1, Seq: 1}, Outcome: api.Atomic, Depth: 1, Expires: 8}
	wrong := []api.Context{{}, {Expires: infinity}}
	for _, n := range []int{-1, 1000000, math.MaxInt, math.MinInt} {
		for tag := 1; tag <= 4; tag++ {
			wrong = append(wrong, with(c, tag, n))
		}
	}
	wrong = append(wrong, with(c, 1, 4), with(c, 3, 0), with(c, 3, 3), with(c, 4, 4))
	for _, x := range noTimes() {
		w := c
		w.Expires = x
		wrong = append(wrong, w)
	}
	for _, now := range allFloats() {
		if got := scope.Open(c, now); got != open(c, now) {
			t.Errorf("Open(%+v, %v) answers %v", c, now, got)
		}
		for _, w := range wrong {
			if scope.Open(w, now) {
				t.Errorf("%+v is open at %v", w, now)
			}
		}
	}
}

// refused fails if bytes are decoded, or not with the error that is wanted.
func refused(t *testing.T, what string, b []byte, want error) {
	t.Helper()
	if c, err := scope.Decode(b); !is(err, want) || !alike(c, api.Context{}) {
		t.Errorf("Decode of %s answers %+v, %v, not %v", what, c, err, want)
	}
	decodes(t, b)
}

func TestDecodeOfWrongRows(t *testing.T) {
	const five = "050008 4014000000000000"
	refused(t, "nil", nil, api.ErrForm)
	for _, c := range []struct {
		what, b string
		want    error
	}{
		{"nothing", "", api.ErrForm},
		{"one byte", "03", api.ErrShort},
		{"half a head behind a right context", "03000101" + five + "06", api.ErrShort},
		{"a float cut short", "03000101 050008 40140000000000", api.ErrShort},
		{"a float's head alone", "03000101 050008", api.ErrShort},
		{"a number cut short", "030001", api.ErrShort},
		{"tag 0", "000000 03000101" + five, api.ErrForm},
		{"tag 0 behind a right context", "03000101" + five + "000000", api.ErrForm},
		{"Expires twice", "03000101" + five + five, api.ErrForm},
		{"Expires ahead", five + "03000101", api.ErrForm},
		{"a number twice", "03000101 03000101" + five, api.ErrForm},
		{"tags that fall", "03000101 02000101" + five, api.ErrForm},
		{"no Expires", "03000101", api.ErrForm},
		{"no Expires, of all numbers", "01000101 02000101 03000101 04000101", api.ErrForm},
		{"tag 6 for Expires", "03000101 060008 4014000000000000", api.ErrForm},
		{"tag 6 behind Expires", "03000101" + five + "06000101", api.ErrForm},
		{"tag 6 without bytes", "03000101" + five + "060000", api.ErrForm},
		{"tag 255 behind Expires", "03000101" + five + "ff000101", api.ErrForm},
		{"tag 6 ahead of a field that is short", "03000101" + five + "06000101 070002", api.ErrShort},
		{"a wrong number ahead of a field that is short", "03000100" + five + "060002", api.ErrShort},
		{"no Outcome", five, api.ErrForm},
		{"no Outcome, of an activity", "01000101 02000101" + five, api.ErrForm},
		{"an Expires of no bytes", "03000101 050000", api.ErrForm},
		{"an Expires of 7 bytes", "03000101 050007 40140000000000", api.ErrForm},
		{"an Expires of 9 bytes", "03000101 050009 401400000000000000", api.ErrForm},
		{"an Expires of 16 bytes", "03000101 050010 40140000000000004014000000000000", api.ErrForm},
		{"a number as Expires", "03000101 05000105", api.ErrForm},
		{"an Expires of minus zero", "03000101 050008 8000000000000000", api.ErrForm},
		{"an Expires of the plain NaN", "03000101 050008 7ff8000000000001", api.ErrForm},
		{"an Expires of another NaN", "03000101 050008 7ff8000000000000", api.ErrForm},
		{"an Expires of a NaN of many bits", "03000101 050008 ffffffffffffffff", api.ErrForm},
		{"an Expires below 0", "03000101 050008 c014000000000000", api.ErrForm},
		{"an Expires hardly below 0", "03000101 050008 8000000000000001", api.ErrForm},
		{"an Expires of minus infinity", "03000101 050008 fff0000000000000", api.ErrForm},
	} {
		refused(t, c.what, raw(c.b), c.want)
	}
}

// TestDecodeOfWrongNumbers is of each number's bytes in turn: what isn't a number's, and numbers out of range.
func TestDecodeOfWrongNumbers(t *testing.T) {
	wrong := []string{
		"", "00", "0000", "0001", "000102", "04", "ff", "0101", "010001", "01000001", "0f4240", "0f4241", "ffffff", "0100000001", "0100000000000001",
		"7fffffffffffffff", "8000000000000000", "8000000000000001", "ffffffffffffffff", "0000000000000001", "00ffffffffffffffff",
		"010000000000000001", "010000000000000000", strings.Repeat("01", 200), strings.Repeat("00", 200), strings.Repeat("ff", 200),
	}
	for _, s := range samples() {
		for tag := 1; tag <= 4; tag++ {
			for _, digits := range wrong {
				b := altered(s.b, tag, raw(digits))
				inSeq := tag == 2 && slices.Contains([]string{"04", "ff", "0101", "010001"}, digits)
				if decodes(t, b) != inSeq {
					t.Errorf("Decode(%x): tag %d has %s", b, tag, digits)
				}
				if !inSeq {
					refused(t, "a wrong number", b, api.ErrForm)
				}
			}
		}
	}
}

// altered is a row's bytes with other ones in the field of a tag, be it there or not.
func altered(b []byte, tag int, data []byte) []byte {
	row, err := fields.Split(b)
	if err != nil {
		panic(err)
	}
	at, found := slices.BinarySearchFunc(row, tag, func(f api.Field, tag int) int { return f.Tag - tag })
	if !found {
		row = slices.Insert(row, at, api.Field{Tag: tag})
	}
	row[at].Data = data
	if b, err = fields.Join(row...); err != nil {
		panic(err)
	}
	return b
}

// TestDecodeOfLongBytes is of long rows, of fields that no context has, and of very many bytes: no length is an error of its own.
func TestDecodeOfLongBytes(t *testing.T) {
	b := samples()[0].b
	for tag := 6; tag <= 5+16; tag++ {
		b = append(b, byte(tag), 0, 200)
		refused(t, "a long row cut short", b, map[bool]error{true: api.ErrShort, false: api.ErrForm}[tag <= 5+13])
		b = append(b, bytes.Repeat([]byte{1}, 200)...)
		refused(t, "a long row", b, api.ErrForm)
	}
	refused(t, "a great many zeros", make([]byte, 1<<20), api.ErrForm)
	refused(t, "a field too long", append(raw("03000101 0500c9"), make([]byte, 201)...), api.ErrForm)
	refused(t, "a float, and zeros up to 200 bytes", append(raw("03000101 0500c8"), make([]byte, 200)...), api.ErrForm)
}

// TestDecodeOfChangedBytes is of right bytes with each byte changed, left out or put in, and of all their beginnings and ends.
func TestDecodeOfChangedBytes(t *testing.T) {
	for _, s := range samples() {
		for i := range len(s.b) + 1 {
			decodes(t, s.b[:i])
			decodes(t, s.b[i:])
			for value := range 256 {
				decodes(t, slices.Insert(bytes.Clone(s.b), i, byte(value)))
				if i < len(s.b) {
					changed := bytes.Clone(s.b)
					changed[i] = byte(value)
					decodes(t, changed)
				}
			}
			if i < len(s.b) {
				decodes(t, slices.Delete(bytes.Clone(s.b), i, i+1))
			}
		}
	}
}

// TestDecodeOfAllBytesAhead is of all bytes up to 8 of few values, alone and ahead of an Expires, by which heads and numbers are told in many ways.
func TestDecodeOfAllBytesAhead(t *testing.T) {
	many := 0
	var grow func(b []byte)
	grow = func(b []byte) {
		decodes(t, b)
		if decodes(t, append(bytes.Clone(b), raw("050008 4014000000000000")...)) {
			many++
		}
		if len(b) == 8 {
			return
		}
		for _, value := range []byte{0, 1, 2, 3, 4} {
			grow(append(b, value))
		}
	}
	grow(nil)
	// Outcomes alone, and each of both behind a Node of 3, a Seq of 4, or ahead of a Depth of 3.
	if want := 2 + 2*(3+4+3); many != want {
		t.Errorf("of these bytes %d are a context, not %d", many, want)
	}
}

// thrown is a context by dice, right or nearly so.
func thrown(roll func(int) int) api.Context {
	c := api.Context{Act: api.Act{Node: roll(4), Seq: roll(1 << roll(20))}, Outcome: 1 + roll(2), Depth: roll(4)}
	c.Expires = math.Float64frombits(uint64(roll(0x7FF0))<<48 | uint64(roll(1<<31))<<16 | uint64(roll(1<<16)))
	if roll(4) == 0 {
		c.Expires = allFloats()[roll(len(allFloats()))]
	}
	if roll(4) == 0 {
		c = with(c, 1+roll(4), strange()[roll(len(strange()))])
	}
	return c
}

func TestThrownContexts(t *testing.T) {
	roll := dice(9)
	counts := map[bool]int{}
	for range 100000 {
		counts[encodes(t, thrown(roll))]++
	}
	if counts[true] < 10000 || counts[false] < 10000 {
		t.Errorf("of the thrown contexts %d were right, %d wrong: too few", counts[true], counts[false])
	}
}

// TestDecodeOfThrownRows is of rows of fields by dice whose numbers are small, or strange.
func TestDecodeOfThrownRows(t *testing.T) {
	roll := dice(10)
	counts := map[bool]int{}
	for range 100000 {
		b, _ := scope.Encode(thrown(roll))
		row, _ := fields.Split(b)
		for range roll(3) {
			if i := roll(7); i < len(row) {
				row[i].Data = append(row[i].Data, byte(roll(20)))[roll(2):]
			} else {
				row = append(row, api.Field{Tag: i + roll(3), Data: []byte{byte(roll(6))}})
			}
		}
		if joined, err := fields.Join(row...); err == nil {
			counts[decodes(t, joined)]++
		}
	}
	if counts[true] < 10000 || counts[false] < 10000 {
		t.Errorf("of the thrown rows %d were contexts, %d not: too few", counts[true], counts[false])
	}
}

// TestSame is of contexts that differ by one field, right or not, and of floats that have one plain form.
func TestSame(t *testing.T) {
	c := api.Context{Act: api.Act{Node: 1, Seq: 2}, Outcome: api.Atomic, Depth: 3, Expires: 4}
	for tag := 1; tag <= 4; tag++ {
		for _, n := range strange() {
			for _, m := range strange() {
				if got := scope.Same(with(c, tag, n), with(c, tag, m)); got != (n == m) {
					t.Errorf("Same of tag %d, %d and %d, answers %v", tag, n, m, got)
				}
			}
		}
	}
	for _, x := range allFloats() {
		for _, y := range allFloats() {
			a, b := c, c
			a.Expires, b.Expires = x, y
			if got := scope.Same(a, b); got != alike(plain(a), plain(b)) {
				t.Errorf("Same of Expires %v and %v answers %v", x, y, got)
			}
		}
	}
}

// TestSameOfPlainForms is of the floats that are the same though their bits aren't.
func TestSameOfPlainForms(t *testing.T) {
	at := func(x float64) api.Context { return api.Context{Expires: x} }
	nan := math.Float64frombits(plainNaN)
	for _, c := range []struct {
		x, y float64
		want bool
	}{
		{0, minusZero, true}, {minusZero, minusZero, true}, {nan, nan, true}, {nan, math.Float64frombits(0xFFF8000000000007), true},
		{nan, infinity, false}, {nan, 0, false}, {infinity, math.Inf(-1), false}, {infinity, math.MaxFloat64, false}, {0, math.SmallestNonzeroFloat64, false}, {5, -5, false}, {1, math.Nextafter(1, 2), false},
	} {
		if scope.Same(at(c.x), at(c.y)) != c.want || scope.Same(at(c.y), at(c.x)) != c.want {
			t.Errorf("Same of Expires %v and %v doesn't answer %v", c.x, c.y, c.want)
		}
	}
}

func TestAnswersAreTheCallers(t *testing.T) {
	s := samples()[0]
	first, _ := scope.Encode(s.c)
	second, _ := scope.Encode(s.c)
	for i := range first {
		first[i] = 0xEE
	}
	_ = append(first, 1, 2, 3)
	if third, _ := scope.Encode(s.c); !bytes.Equal(second, s.b) || !bytes.Equal(third, s.b) {
		t.Errorf("what Encode answers is shared: %x, %x", second, third)
	}
	c, _ := scope.Decode(second)
	clear(second)
	if !alike(c, s.c) {
		t.Errorf("a later change of the bytes shows in what was decoded: %+v", c)
	}
}

// TestExamples is of the chapter's example.
func TestExamples(t *testing.T) {
	c, err := scope.New(api.Act{Node: 0, Seq: 1}, api.Atomic, 5, infinity)
	if err != nil || c.Expires != infinity || c.Depth != 0 {
		t.Fatalf("New answers %+v, %v", c, err)
	}
	if !scope.Open(c, 5) || !scope.Open(c, 1e300) || scope.Open(c, infinity) {
		t.Errorf("open at 5: %v, at 1e300: %v, at infinity: %v", scope.Open(c, 5), scope.Open(c, 1e300), scope.Open(c, infinity))
	}
}
