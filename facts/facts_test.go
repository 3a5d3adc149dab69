package facts_test

import (
	"bytes"
	"encoding/hex"
	"math"
	"slices"
	"strings"
	"testing"

	"liaison/api"
	"liaison/facts"
	"liaison/fields"
	"liaison/journal"
	"liaison/tape"
)

// is tells whether an error is the very one that is wanted, nil too.
func is(err, want error) bool {
	if err == nil || want == nil {
		return err == nil && want == nil
	}
	return err == want
}

// dice answers numbers that are spread, the same ones each time.
func dice(seed uint64) func(below int) int {
	return func(below int) int {
		seed = seed*6364136223846793005 + 1442695040888963407
		return int(seed>>33) % below
	}
}

// raw is the bytes of a text of hexadecimal digits, blanks between them.
func raw(text string) []byte {
	b, err := hex.DecodeString(strings.ReplaceAll(text, " ", ""))
	if err != nil {
		panic(err)
	}
	return b
}

var (
	infinity  = math.Inf(1)
	minusZero = math.Copysign(0, -1)
)

// sample is a right fact, and its bytes.
type sample struct {
	f facts.Fact
	b []byte
}

// samples is right facts, with their bytes written by hand: of each kind ordinary ones, and such as have each number's edges.
func samples() []sample {
	act := func(node, seq int) api.Act { return api.Act{Node: node, Seq: seq} }
	last := act(3, 999999)
	return []sample{
		{facts.Fact{Kind: facts.Opened, Outcome: api.Atomic}, raw("01000101 08000101 0e0008 0000000000000000")},
		{facts.Fact{Kind: facts.Opened, Act: act(1, 17), Outcome: api.Mixed, Depth: 1, Parent: 2, Expires: 2.5}, raw("01000101 02000101 03000111 08000102 09000101 0a000102 0e0008 4004000000000000")},
		{facts.Fact{Kind: facts.Opened, Act: last, Outcome: api.Mixed, Depth: 3, Parent: 8, Expires: infinity}, raw("01000101 02000103 0300030f423f 08000102 09000103 0a000108 0e0008 7ff0000000000000")},
		{facts.Fact{Kind: facts.Opened, Act: act(0, 256), Outcome: api.Atomic, Parent: 1, Expires: math.MaxFloat64}, raw("01000101 0300020100 08000101 0a000101 0e0008 7fefffffffffffff")},
		{facts.Fact{Kind: facts.Enrolled, Protocol: api.PC}, raw("01000102 07000101")},
		{facts.Fact{Kind: facts.Enrolled, Act: act(2, 255), Reg: 1, Node: 2, Part: 3, Protocol: api.CC}, raw("01000102 02000102 030001ff 04000101 05000102 06000103 07000102")},
		{facts.Fact{Kind: facts.Enrolled, Act: last, Reg: 5, Node: 3, Part: 7, Protocol: api.CC}, raw("01000102 02000103 0300030f423f 04000105 05000103 06000107 07000102")},
		{facts.Fact{Kind: facts.Seated, State: api.Active}, raw("01000103 0b000101")},
		{facts.Fact{Kind: facts.Seated, Act: act(0, 3), Reg: 1, State: api.Ended, How: api.Closed}, raw("01000103 03000103 04000101 0b00010e 0c000107")},
		{facts.Fact{Kind: facts.Seated, Act: last, Reg: 5, State: api.Exiting}, raw("01000103 02000103 0300030f423f 04000105 0b00010d")},
		{facts.Fact{Kind: facts.Decided, Decision: 1}, raw("01000104 0d000101")},
		{facts.Fact{Kind: facts.Decided, Act: last, Decision: 2}, raw("01000104 02000103 0300030f423f 0d000102")},
		{facts.Fact{Kind: facts.Forgot}, raw("01000105")},
		{facts.Fact{Kind: facts.Forgot, Act: act(1, 65536)}, raw("01000105 02000101 030003010000")},
		{facts.Fact{Kind: facts.Joined, Protocol: api.CC}, raw("01000106 07000102")},
		{facts.Fact{Kind: facts.Joined, Part: 7, Act: act(3, 65535), Protocol: api.PC}, raw("01000106 02000103 030002ffff 06000107 07000101")},
		{facts.Fact{Kind: facts.Placed}, raw("01000107")},
		{facts.Fact{Kind: facts.Placed, Part: 7, Reg: 5}, raw("01000107 04000105 06000107")},
		{facts.Fact{Kind: facts.Turned, State: api.Completed}, raw("01000108 0b000105")},
		{facts.Fact{Kind: facts.Turned, Part: 7, State: api.Ended, How: api.Exit}, raw("01000108 06000107 0b00010e 0c000101")},
	}
}

// strange is numbers, most of them out of all ranges: at the edges, and such as are right in fewer bits.
func strange() []int {
	list := []int{
		-1, -2, -255, -256, 255, 256, 257, 258, 65536, 999998, 999999, 1000000, 1000001, 1 << 24, math.MaxInt32, 1 << 31, 1<<32 - 1, 1 << 32, 1<<32 + 1, 1<<32 + 2,
		math.MinInt32, -1 << 32, -1<<32 + 1, 1<<56 + 1, math.MaxInt - 1, math.MaxInt, math.MinInt, math.MinInt + 1,
	}
	for n := range 18 {
		list = append(list, n)
	}
	return list
}

// times is floats that are times in their plain form, each less than the next one.
func times() []float64 {
	return []float64{
		0, math.SmallestNonzeroFloat64, 2 * math.SmallestNonzeroFloat64, 0x1p-1022, 0.5, math.Nextafter(1, 0), 1, math.Nextafter(1, 2), 2, 5, 0x1p50, 1e300,
		math.Nextafter(math.MaxFloat64, 0), math.MaxFloat64, infinity,
	}
}

// noTimes is floats that aren't: minus zero, numbers below 0, and NaNs of several bits, the plain one among them.
func noTimes() []float64 {
	list := []float64{minusZero, -math.SmallestNonzeroFloat64, -0x1p-1022, -1, -5, -1e300, -math.MaxFloat64, math.Inf(-1)}
	for _, bits := range []uint64{plainNaN, 0x7FF8000000000000, 0x7FF0000000000001, 0x7FFFFFFFFFFFFFFF, 0xFFF8000000000001, 0xFFF8000000000000, 0xFFFFFFFFFFFFFFFF} {
		list = append(list, math.Float64frombits(bits))
	}
	return list
}

// allFloats is times, and floats that are none.
func allFloats() []float64 {
	return append(times(), noTimes()...)
}

// with is a fact with another number, by its tag.
func with(f facts.Fact, tag, n int) facts.Fact {
	numbers := numbersOf(f)
	numbers[tag] = n
	return factOf(numbers, f.Expires)
}

// at is a fact with another Expires.
func at(f facts.Fact, expires float64) facts.Fact {
	f.Expires = expires
	return f
}

func TestLimits(t *testing.T) {
	limits := []int{api.MaxNodes, api.MaxSeq, api.MaxRegs, api.MaxParts, api.MaxDepth, api.MaxRow, api.PC, api.CC, api.Atomic, api.Mixed, api.Active, api.Ended, api.Exit, api.Fail, api.Compensated}
	if want := []int{4, 1000000, 6, 8, 3, 200, 1, 2, 1, 2, 1, 14, 1, 4, 8}; !slices.Equal(limits, want) {
		t.Fatalf("the tests are made for other limits and numbers than %v", limits)
	}
}

func TestKinds(t *testing.T) {
	kinds := []int{facts.Opened, facts.Enrolled, facts.Seated, facts.Decided, facts.Forgot, facts.Joined, facts.Placed, facts.Turned}
	if want := []int{1, 2, 3, 4, 5, 6, 7, 8}; !slices.Equal(kinds, want) {
		t.Errorf("the kinds are %v, not %v", kinds, want)
	}
}

// writes fails if Right or Bytes doesn't answer what the chapter says, or what is written isn't read as the same; it answers whether the fact is right.
func writes(t *testing.T, f facts.Fact) bool {
	t.Helper()
	want, wantErr := written(f)
	if got := f.Right(); got != (wantErr == nil) {
		t.Fatalf("Right of %+v answers %v", f, got)
	}
	b, err := f.Bytes()
	if !is(err, wantErr) || string(b) != want || err != nil && b != nil {
		t.Fatalf("Bytes of %+v answers %x, %v, not %x, %v", f, b, err, want, wantErr)
	}
	if err != nil {
		return false
	}
	if len(b) > 200 {
		t.Fatalf("the bytes of %+v are %d, too many for a row", f, len(b))
	}
	if back, err := facts.Read(b); err != nil || !alike(back, f) {
		t.Fatalf("what is written of %+v is read as %+v, %v", f, back, err)
	}
	return true
}

// reads fails if Read doesn't answer what the chapter says, or what is read isn't written to the same bytes; it answers whether there is a fact.
func reads(t *testing.T, b []byte) bool {
	t.Helper()
	was := bytes.Clone(b)
	f, err := facts.Read(b)
	if want, wantErr := read(was); !is(err, wantErr) || !alike(f, want) {
		t.Fatalf("Read(%x) answers %+v, %v, not %+v, %v", was, f, err, want, wantErr)
	}
	if !bytes.Equal(b, was) {
		t.Fatalf("Read changes %x to %x", was, b)
	}
	if err != nil {
		return false
	}
	if again, err := f.Bytes(); err != nil || !bytes.Equal(again, was) {
		t.Fatalf("what is read of %x is written to %x, %v", was, again, err)
	}
	return true
}

func TestSamples(t *testing.T) {
	for _, s := range samples() {
		if !s.f.Right() {
			t.Errorf("Right of %+v answers false", s.f)
		}
		if b, err := s.f.Bytes(); err != nil || !bytes.Equal(b, s.b) {
			t.Errorf("Bytes of %+v answers %x, %v, not %x", s.f, b, err, s.b)
		}
		if f, err := facts.Read(s.b); err != nil || !alike(f, s.f) {
			t.Errorf("Read(%x) answers %+v, %v, not %+v", s.b, f, err, s.f)
		}
		if !facts.Same(s.f, s.f) {
			t.Errorf("Same of %+v with itself answers false", s.f)
		}
	}
}

// TestRanges is of each field that a kind names, at its edges and behind them, by hand.
func TestRanges(t *testing.T) {
	seat := []int{api.Active, api.Ended - 1} // Ended needs How
	for _, c := range []struct {
		what  string
		f     facts.Fact
		tag   int
		edges []int
	}{
		{"Opened's node", facts.Fact{Kind: 1, Outcome: 1}, 2, []int{0, 3}},
		{"Opened's number", facts.Fact{Kind: 1, Outcome: 1}, 3, []int{0, 999999}},
		{"Opened's Outcome", facts.Fact{Kind: 1}, 8, []int{1, 2}},
		{"Opened's Depth", facts.Fact{Kind: 1, Outcome: 1}, 9, []int{0, 3}},
		{"Opened's Parent", facts.Fact{Kind: 1, Outcome: 1}, 10, []int{0, 8}},
		{"Enrolled's node", facts.Fact{Kind: 2, Protocol: 1}, 2, []int{0, 3}},
		{"Enrolled's number", facts.Fact{Kind: 2, Protocol: 1}, 3, []int{0, 999999}},
		{"Enrolled's Reg", facts.Fact{Kind: 2, Protocol: 1}, 4, []int{0, 5}},
		{"Enrolled's Node", facts.Fact{Kind: 2, Protocol: 1}, 5, []int{0, 3}},
		{"Enrolled's Part", facts.Fact{Kind: 2, Protocol: 1}, 6, []int{0, 7}},
		{"Enrolled's Protocol", facts.Fact{Kind: 2}, 7, []int{1, 2}},
		{"Seated's node", facts.Fact{Kind: 3, State: 1}, 2, []int{0, 3}},
		{"Seated's number", facts.Fact{Kind: 3, State: 1}, 3, []int{0, 999999}},
		{"Seated's Reg", facts.Fact{Kind: 3, State: 1}, 4, []int{0, 5}},
		{"Seated's State", facts.Fact{Kind: 3}, 11, seat},
		{"Decided's node", facts.Fact{Kind: 4, Decision: 1}, 2, []int{0, 3}},
		{"Decided's number", facts.Fact{Kind: 4, Decision: 1}, 3, []int{0, 999999}},
		{"Decided's Decision", facts.Fact{Kind: 4}, 13, []int{1, 2}},
		{"Forgot's node", facts.Fact{Kind: 5}, 2, []int{0, 3}},
		{"Forgot's number", facts.Fact{Kind: 5}, 3, []int{0, 999999}},
		{"Joined's node", facts.Fact{Kind: 6, Protocol: 1}, 2, []int{0, 3}},
		{"Joined's number", facts.Fact{Kind: 6, Protocol: 1}, 3, []int{0, 999999}},
		{"Joined's Part", facts.Fact{Kind: 6, Protocol: 1}, 6, []int{0, 7}},
		{"Joined's Protocol", facts.Fact{Kind: 6}, 7, []int{1, 2}},
		{"Placed's Reg", facts.Fact{Kind: 7}, 4, []int{0, 5}},
		{"Placed's Part", facts.Fact{Kind: 7}, 6, []int{0, 7}},
		{"Turned's Part", facts.Fact{Kind: 8, State: 1}, 6, []int{0, 7}},
		{"Turned's State", facts.Fact{Kind: 8}, 11, seat},
	} {
		for _, n := range append(strange(), c.edges[0]-1, c.edges[1]+1) {
			want := c.edges[0] <= n && n <= c.edges[1]
			if got := writes(t, with(c.f, c.tag, n)); got != want {
				t.Errorf("%s is %d: right answers %v", c.what, n, got)
			}
		}
	}
}

// TestHow is of all states and kinds by which a seat might have ended, of both facts that have them.
func TestHow(t *testing.T) {
	ways := []int{api.Exit, api.Fail, api.CannotComplete, api.Canceled, api.Closed, api.Compensated}
	for _, kind := range []int{facts.Seated, facts.Turned} {
		for state := -1; state <= 16; state++ {
			for _, how := range append(strange(), 18, 19, 20) {
				want := 1 <= state && state <= 13 && how == 0 || state == 14 && slices.Contains(ways, how)
				if got := writes(t, facts.Fact{Kind: kind, State: state, How: how}); got != want {
					t.Errorf("of kind %d, state %d, How %d right answers %v", kind, state, how, got)
				}
			}
		}
	}
}

// TestExpires is of all floats in each kind of fact: one that isn't Opened has none but zero.
func TestExpires(t *testing.T) {
	for _, s := range samples() {
		for i, x := range allFloats() {
			want := i == 0 || s.f.Kind == facts.Opened && i < len(times())
			if got := writes(t, at(s.f, x)); got != want {
				t.Errorf("of kind %d, Expires %v (%x), right answers %v", s.f.Kind, x, math.Float64bits(x), got)
			}
		}
	}
}

// TestOneNumberStrange is of right facts in which each number in turn, its kind too, is each one of many.
func TestOneNumberStrange(t *testing.T) {
	for _, s := range samples() {
		for tag := 1; tag <= 13; tag++ {
			for _, n := range strange() {
				writes(t, with(s.f, tag, n))
			}
		}
	}
}

// TestTwoNumbersStrange is of right facts in which two numbers are each one of some, so that one doesn't make the other right.
func TestTwoNumbersStrange(t *testing.T) {
	some := []int{-1, 0, 1, 2, 3, 4, 7, 8, 9, 14, 15, 1000000}
	for _, s := range samples() {
		for one := 1; one <= 13; one++ {
			for other := one + 1; other <= 13; other++ {
				for _, n := range some {
					for _, m := range some {
						writes(t, with(with(s.f, one, n), other, m))
					}
				}
			}
		}
	}
}

// TestNothingElse is of the least right facts with each field in turn at 1: it is wrong where their kind doesn't name it, and How where nothing has ended.
func TestNothingElse(t *testing.T) {
	for _, c := range []struct {
		f     facts.Fact
		wrong []int
	}{
		{facts.Fact{Kind: facts.Opened, Outcome: 1}, []int{4, 5, 6, 7, 11, 12, 13}},
		{facts.Fact{Kind: facts.Enrolled, Protocol: 1}, []int{8, 9, 10, 11, 12, 13}},
		{facts.Fact{Kind: facts.Seated, State: 1}, []int{5, 6, 7, 8, 9, 10, 12, 13}},
		{facts.Fact{Kind: facts.Decided, Decision: 1}, []int{4, 5, 6, 7, 8, 9, 10, 11, 12}},
		{facts.Fact{Kind: facts.Forgot}, []int{4, 5, 6, 7, 8, 9, 10, 11, 12, 13}},
		{facts.Fact{Kind: facts.Joined, Protocol: 1}, []int{4, 5, 8, 9, 10, 11, 12, 13}},
		{facts.Fact{Kind: facts.Placed}, []int{2, 3, 5, 7, 8, 9, 10, 11, 12, 13}},
		{facts.Fact{Kind: facts.Turned, State: 1}, []int{2, 3, 4, 5, 7, 8, 9, 10, 12, 13}},
	} {
		for tag := 2; tag <= 13; tag++ {
			for _, n := range []int{1, -1} {
				want := n == 1 && !slices.Contains(c.wrong, tag)
				if got := writes(t, with(c.f, tag, n)); got != want {
					t.Errorf("of kind %d, with %d at tag %d, right answers %v", c.f.Kind, n, tag, got)
				}
			}
		}
	}
}

// TestNoKind is of facts of no kind, otherwise as those of each kind are.
func TestNoKind(t *testing.T) {
	if writes(t, facts.Fact{}) {
		t.Error("the zero fact is right")
	}
	for _, s := range samples() {
		for _, kind := range []int{0, 9, -1, -8, 10, 255, 256, 257, 1<<32 + s.f.Kind, math.MaxInt, math.MinInt} {
			if writes(t, with(s.f, 1, kind)) {
				t.Errorf("%+v is right as of kind %d", s.f, kind)
			}
		}
	}
}

// someActs is activities at the edges of their numbers' bytes.
func someActs() []api.Act {
	var list []api.Act
	for node := range 4 {
		for _, seq := range []int{0, 1, 255, 256, 65535, 65536, 999999} {
			list = append(list, api.Act{Node: node, Seq: seq})
		}
	}
	return list
}

// seats is all states that a seat may have, with How.
func seats() [][2]int {
	var list [][2]int
	for state := 1; state <= 13; state++ {
		list = append(list, [2]int{state, 0})
	}
	for _, how := range []int{1, 4, 5, 6, 7, 8} {
		list = append(list, [2]int{14, how})
	}
	return list
}

// allRight is all right facts of some activities and times.
func allRight() []facts.Fact {
	var list []facts.Fact
	for _, a := range someActs() {
		for i := range 2 * 4 * 9 {
			for _, x := range times() {
				list = append(list, facts.Fact{Kind: facts.Opened, Act: a, Outcome: 1 + i%2, Depth: i / 2 % 4, Parent: i / 8, Expires: x})
			}
		}
		for i := range 6 * 4 * 8 * 2 {
			list = append(list, facts.Fact{Kind: facts.Enrolled, Act: a, Reg: i % 6, Node: i / 6 % 4, Part: i / 24 % 8, Protocol: 1 + i/192})
		}
		for reg := range 6 {
			for _, s := range seats() {
				list = append(list, facts.Fact{Kind: facts.Seated, Act: a, Reg: reg, State: s[0], How: s[1]})
			}
		}
		list = append(list, facts.Fact{Kind: facts.Decided, Act: a, Decision: 1}, facts.Fact{Kind: facts.Decided, Act: a, Decision: 2}, facts.Fact{Kind: facts.Forgot, Act: a})
		for i := range 8 * 2 {
			list = append(list, facts.Fact{Kind: facts.Joined, Act: a, Part: i % 8, Protocol: 1 + i/8})
		}
	}
	for part := range 8 {
		for reg := range 6 {
			list = append(list, facts.Fact{Kind: facts.Placed, Part: part, Reg: reg})
		}
		for _, s := range seats() {
			list = append(list, facts.Fact{Kind: facts.Turned, Part: part, State: s[0], How: s[1]})
		}
	}
	return list
}

// TestAllRight is of all right facts of some activities and times: each one is written, to bytes of its own, and read again.
func TestAllRight(t *testing.T) {
	list := allRight()
	seen := map[string]bool{}
	for _, f := range list {
		if !writes(t, f) {
			t.Fatalf("%+v isn't right", f)
		}
		b, _ := f.Bytes()
		seen[string(b)] = true
	}
	if want := 28*(72*15+384+6*19+2+1+16) + 8*6 + 8*19; len(seen) != want || len(list) != want {
		t.Errorf("of %d facts %d have bytes of their own, not %d", len(list), len(seen), want)
	}
}

// refused fails if bytes are read, or not with the error that is wanted.
func refused(t *testing.T, what string, b []byte, want error) {
	t.Helper()
	if f, err := facts.Read(b); !is(err, want) || !alike(f, facts.Fact{}) {
		t.Errorf("Read of %s answers %+v, %v, not %v", what, f, err, want)
	}
	reads(t, b)
}

func TestReadOfWrongRows(t *testing.T) {
	const five = "0e0008 4014000000000000"
	refused(t, "nil", nil, api.ErrForm)
	for _, c := range []struct {
		what, b string
		want    error
	}{
		{"nothing", "", api.ErrForm},
		{"one byte", "01", api.ErrShort},
		{"a head alone", "010001", api.ErrShort},
		{"half a head behind a right fact", "01000105 02", api.ErrShort},
		{"a number cut short", "01000105 02000103 0300030f42", api.ErrShort},
		{"a float cut short", "01000101 08000101 0e0008 40140000000000", api.ErrShort},
		{"tag 0", "000000 01000105", api.ErrForm},
		{"tag 0 behind a right fact", "01000105 000000", api.ErrForm},
		{"the kind twice", "01000105 01000105", api.ErrForm},
		{"tags that fall", "02000101 01000105", api.ErrForm},
		{"Expires twice", "01000101 08000101" + five + five, api.ErrForm},
		{"Expires ahead", five + "01000101 08000101", api.ErrForm},
		{"no kind", "02000101", api.ErrForm},
		{"no kind, but Expires", "08000101" + five, api.ErrForm},
		{"Expires alone", five, api.ErrForm},
		{"kind 9", "01000109", api.ErrForm},
		{"kind 255", "010001ff", api.ErrForm},
		{"kind 261", "0100020105", api.ErrForm},
		{"kind 0", "01000100", api.ErrForm},
		{"kind of no bytes", "010000", api.ErrForm},
		{"kind with a 0 ahead", "0100020005", api.ErrForm},
		{"tag 15", "01000105 0f000101", api.ErrForm},
		{"tag 15 without bytes", "01000105 0f0000", api.ErrForm},
		{"tag 15 behind Expires", "01000101 08000101" + five + "0f000101", api.ErrForm},
		{"tag 15 for Expires", "01000101 08000101 0f0008 4014000000000000", api.ErrForm},
		{"tag 255", "01000105 ff000101", api.ErrForm},
		{"tag 255, of a float", "01000101 08000101 ff0008 4014000000000000", api.ErrForm},
		{"tag 15 ahead of a field that is short", "01000105 0f000101 100002", api.ErrShort},
		{"a wrong number ahead of a field that is short", "01000100 020002", api.ErrShort},
		{"a wrong float ahead of a head that is short", "01000101 08000101 0e0001ff 0f", api.ErrShort},
		{"Opened without Expires", "01000101 08000101", api.ErrForm},
		{"Opened without Expires, of all numbers", "01000101 02000101 03000101 08000101 09000101 0a000101", api.ErrForm},
		{"Opened without Outcome", "01000101" + five, api.ErrForm},
		{"Opened alone", "01000101", api.ErrForm},
		{"Enrolled without Protocol", "01000102 02000101 03000101 04000101 05000101 06000101", api.ErrForm},
		{"Seated without State", "01000103 02000101 03000101 04000101", api.ErrForm},
		{"Seated, Ended, without How", "01000103 0b00010e", api.ErrForm},
		{"Seated, Ended by Complete", "01000103 0b00010e 0c000102", api.ErrForm},
		{"Seated, Ended by Close", "01000103 0b00010e 0c000109", api.ErrForm},
		{"Seated, not Ended, with How", "01000103 0b00010d 0c000107", api.ErrForm},
		{"Decided without Decision", "01000104 02000101 03000101", api.ErrForm},
		{"Decided 3", "01000104 0d000103", api.ErrForm},
		{"Forgot with Decision", "01000105 0d000101", api.ErrForm},
		{"Joined without Protocol", "01000106 02000101 03000101 06000101", api.ErrForm},
		{"Placed with a Protocol", "01000107 07000101", api.ErrForm},
		{"Placed of an activity", "01000107 03000101 04000101", api.ErrForm},
		{"Turned without State", "01000108 06000101", api.ErrForm},
		{"Turned with Reg", "01000108 04000101 0b000101", api.ErrForm},
		{"an Expires of no bytes", "01000101 08000101 0e0000", api.ErrForm},
		{"an Expires of 7 bytes", "01000101 08000101 0e0007 40140000000000", api.ErrForm},
		{"an Expires of 9 bytes", "01000101 08000101 0e0009 401400000000000000", api.ErrForm},
		{"an Expires of 16 bytes", "01000101 08000101 0e0010 40140000000000004014000000000000", api.ErrForm},
		{"a number as Expires", "01000101 08000101 0e000105", api.ErrForm},
		{"an Expires of minus zero", "01000101 08000101 0e0008 8000000000000000", api.ErrForm},
		{"an Expires of the plain NaN", "01000101 08000101 0e0008 7ff8000000000001", api.ErrForm},
		{"an Expires of another NaN", "01000101 08000101 0e0008 7ff8000000000000", api.ErrForm},
		{"an Expires of a NaN of many bits", "01000101 08000101 0e0008 ffffffffffffffff", api.ErrForm},
		{"an Expires below 0", "01000101 08000101 0e0008 c014000000000000", api.ErrForm},
		{"an Expires hardly below 0", "01000101 08000101 0e0008 8000000000000001", api.ErrForm},
		{"an Expires of minus infinity", "01000101 08000101 0e0008 fff0000000000000", api.ErrForm},
	} {
		refused(t, c.what, raw(c.b), c.want)
	}
}

// TestExpiresElsewhere is of facts that are right, but for an Expires, of zero too, that just Opened has, and always.
func TestExpiresElsewhere(t *testing.T) {
	for _, s := range samples() {
		if s.f.Kind == facts.Opened {
			refused(t, "Opened without Expires", s.b[:len(s.b)-11], api.ErrForm)
			continue
		}
		for _, float := range []string{"0000000000000000", "8000000000000000", "4014000000000000", "7ff0000000000000", "7ff8000000000001"} {
			refused(t, "a fact with Expires", append(bytes.Clone(s.b), raw("0e0008"+float)...), api.ErrForm)
		}
		refused(t, "a fact with an empty Expires", append(bytes.Clone(s.b), raw("0e0000")...), api.ErrForm)
	}
}

// TestReadOfWrongNumbers is of each number's bytes in turn: what isn't a number's, and numbers out of range.
func TestReadOfWrongNumbers(t *testing.T) {
	wrong := []string{
		"", "00", "0000", "0001", "000102", "000000000000000001", "0f4240", "0f4241", "ffffff", "0100000001", "0100000000000001",
		"7fffffffffffffff", "8000000000000000", "8000000000000001", "ffffffffffffffff", "0000000000000001", "00ffffffffffffffff",
		"010000000000000001", "010000000000000000", strings.Repeat("01", 200), strings.Repeat("00", 200), strings.Repeat("ff", 200),
	}
	for _, s := range samples() {
		for tag := 1; tag <= 13; tag++ {
			for _, digits := range wrong {
				refused(t, "a wrong number", altered(s.b, tag, raw(digits)), api.ErrForm)
			}
			for _, digits := range []string{"01", "04", "09", "0f", "ff", "0101", "010001", "0f423f"} {
				reads(t, altered(s.b, tag, raw(digits)))
			}
		}
	}
}

// altered is a row's bytes with other ones in the field of a tag, be it there or not.
func altered(b []byte, tag int, data []byte) []byte {
	row, err := fields.Split(b)
	if err != nil {
		panic(err)
	}
	i, found := slices.BinarySearchFunc(row, tag, func(f api.Field, tag int) int { return f.Tag - tag })
	if !found {
		row = slices.Insert(row, i, api.Field{Tag: tag})
	}
	row[i].Data = data
	if b, err = fields.Join(row...); err != nil {
		panic(err)
	}
	return b
}

// TestReadOfLongBytes is of long rows, of fields that no fact has, and of very many bytes: no length is an error of its own.
func TestReadOfLongBytes(t *testing.T) {
	b := raw("01000105")
	for tag := 15; tag < 15+20; tag++ {
		b = append(b, byte(tag), 0, 200)
		// A row has 16 fields: the head of one more is wrong, whatever is behind it.
		refused(t, "a long row cut short", b, map[bool]error{true: api.ErrShort, false: api.ErrForm}[tag < 15+15])
		b = append(b, bytes.Repeat([]byte{1}, 200)...)
		refused(t, "a long row", b, api.ErrForm)
	}
	refused(t, "a great many zeros", make([]byte, 1<<20), api.ErrForm)
	refused(t, "a field too long", append(raw("01000105 0200c9"), make([]byte, 201)...), api.ErrForm)
	refused(t, "a float, and zeros up to 200 bytes", append(raw("01000101 08000101 0e00c8"), make([]byte, 200)...), api.ErrForm)
}

// TestReadOfChangedBytes is of right bytes with each byte changed, left out or put in, and of all their beginnings and ends.
func TestReadOfChangedBytes(t *testing.T) {
	for _, s := range samples() {
		for i := range len(s.b) + 1 {
			reads(t, s.b[:i])
			reads(t, s.b[i:])
			for value := range 256 {
				reads(t, slices.Insert(bytes.Clone(s.b), i, byte(value)))
				if i < len(s.b) {
					changed := bytes.Clone(s.b)
					changed[i] = byte(value)
					reads(t, changed)
				}
			}
			if i < len(s.b) {
				reads(t, slices.Delete(bytes.Clone(s.b), i, i+1))
			}
		}
	}
}

// TestReadOfAllSmallRows is of each kind with all fields of one byte at none or one of few numbers, up to four fields beside the kind.
func TestReadOfAllSmallRows(t *testing.T) {
	const five = "\x0e\x00\x08\x40\x14\x00\x00\x00\x00\x00\x00"
	var counts [10]int
	var grow func(b []byte, tag, more int)
	grow = func(b []byte, tag, more int) {
		for _, end := range []string{"", five} {
			if reads(t, append(bytes.Clone(b), end...)) {
				counts[b[3]]++
			}
		}
		if more == 0 {
			return
		}
		for ; tag <= 13; tag++ {
			for _, n := range []byte{1, 4, 14} {
				grow(append(bytes.Clone(b), byte(tag), 0, 1, n), tag+1, more-1)
			}
		}
	}
	for kind := range byte(10) {
		grow([]byte{1, 0, 1, kind}, 2, 4)
	}
	if want := [10]int{0, 42, 92, 84, 8, 8, 24, 9, 12, 0}; counts != want {
		t.Errorf("of these rows so many are facts, by their kinds: %v, not %v", counts, want)
	}
}

// thrown is a fact by dice, right or nearly so.
func thrown(roll func(int) int) facts.Fact {
	var n [14]int
	n[1] = 1 + roll(8)
	for tag := 2; tag <= 13; tag++ {
		if names(n[1], tagged[tag]) {
			n[tag] = least[tag] + roll(most[tag]-least[tag]+1)
		}
	}
	// Half of the seats' facts are of Ended ones, the others have no How.
	if names(n[1], "State") && roll(2) == 0 {
		n[11], n[12] = 14, []int{1, 4, 5, 6, 7, 8, 0, 2, 3, 9}[roll(10)]
	} else if roll(8) > 0 {
		n[12] = 0
	}
	f := factOf(n, 0)
	if f.Kind == facts.Opened {
		f.Expires = math.Float64frombits(uint64(roll(0x7FF0))<<48 | uint64(roll(1<<31))<<16 | uint64(roll(1<<16)))
	}
	if roll(8) == 0 {
		f.Expires = allFloats()[roll(len(allFloats()))]
	}
	if roll(4) == 0 {
		f = with(f, 1+roll(13), strange()[roll(len(strange()))])
	}
	return f
}

func TestThrownFacts(t *testing.T) {
	roll := dice(14)
	counts := map[bool]int{}
	for range 100000 {
		counts[writes(t, thrown(roll))]++
	}
	if counts[true] < 10000 || counts[false] < 10000 {
		t.Errorf("of the thrown facts %d were right, %d wrong: too few", counts[true], counts[false])
	}
}

// TestReadOfThrownRows is of rows of fields by dice whose numbers are small, or strange.
func TestReadOfThrownRows(t *testing.T) {
	roll := dice(15)
	counts := map[bool]int{}
	for range 100000 {
		b, _ := thrown(roll).Bytes()
		row, _ := fields.Split(b)
		for range roll(3) {
			if i := roll(9); i < len(row) {
				row[i].Data = append(row[i].Data, byte(roll(20)))[roll(2):]
			} else {
				row = append(row, api.Field{Tag: i + roll(8), Data: []byte{byte(roll(6))}})
			}
		}
		if joined, err := fields.Join(row...); err == nil {
			counts[reads(t, joined)]++
		}
	}
	if counts[true] < 10000 || counts[false] < 10000 {
		t.Errorf("of the thrown rows %d were facts, %d not: too few", counts[true], counts[false])
	}
}

func TestRows(t *testing.T) {
	if rows, err := facts.Rows(); err != nil || len(rows) != 0 {
		t.Errorf("Rows of none answers %x, %v", rows, err)
	}
	var list []facts.Fact
	for i, s := range samples() {
		list = append(list, s.f)
		was := slices.Clone(list)
		rows, err := facts.Rows(list...)
		if err != nil || len(rows) != i+1 {
			t.Fatalf("Rows of %d answers %x, %v", i+1, rows, err)
		}
		for k, row := range rows {
			if !bytes.Equal(row, samples()[k].b) {
				t.Errorf("Rows answers at %d %x, not %x", k, row, samples()[k].b)
			}
		}
		if !slices.EqualFunc(list, was, alike) {
			t.Fatalf("Rows changes its list to %+v", list)
		}
	}
}

// TestRowsOfWrong is of lists with a fact that isn't right at each place: there are no rows, and a fact that isn't right stays as it is.
func TestRowsOfWrong(t *testing.T) {
	right := facts.Fact{Kind: facts.Forgot}
	for _, wrong := range []facts.Fact{{}, {Kind: 9}, {Kind: facts.Forgot, Reg: 1}, {Kind: facts.Forgot, Expires: minusZero}, {Kind: facts.Opened, Outcome: 1, Expires: minusZero}} {
		for many := 1; many <= 4; many++ {
			for place := range many {
				list := slices.Repeat([]facts.Fact{right}, many)
				list[place] = wrong
				if rows, err := facts.Rows(list...); !is(err, api.ErrForm) || rows != nil {
					t.Errorf("Rows with %+v at %d of %d answers %x, %v", wrong, place, many, rows, err)
				}
				if !alike(list[place], wrong) {
					t.Errorf("Rows changes %+v to %+v", wrong, list[place])
				}
			}
		}
	}
	if rows, err := facts.Rows(facts.Fact{}, facts.Fact{Kind: 9}); !is(err, api.ErrForm) || rows != nil {
		t.Errorf("Rows of two wrong ones answers %x, %v", rows, err)
	}
}

// TestRowsInAJournal is of facts as rows of a journal, which takes each one, and of what is read from it when it is opened anew.
func TestRowsInAJournal(t *testing.T) {
	paper, err := tape.New(api.MaxTape)
	if err != nil {
		t.Fatal(err)
	}
	j, err := journal.Open(paper)
	if err != nil {
		t.Fatal(err)
	}
	var list []facts.Fact
	for _, s := range samples() {
		list = append(list, s.f)
	}
	rows, err := facts.Rows(list...)
	if err != nil {
		t.Fatal(err)
	}
	if err := j.Put(rows...); err != nil {
		t.Fatalf("the journal doesn't take facts: %v", err)
	}
	paper.Crash(0)
	again, err := journal.Open(paper)
	if err != nil || again.Len() != len(list) {
		t.Fatalf("Open answers %v", err)
	}
	for i, row := range again.Rows() {
		if f, err := facts.Read(row); err != nil || !facts.Same(f, list[i]) {
			t.Errorf("of %+v the journal has %+v, %v", list[i], f, err)
		}
	}
}

// TestSame is of facts that differ by one field, right or not.
func TestSame(t *testing.T) {
	for _, f := range []facts.Fact{{}, samples()[1].f, samples()[8].f, factOf([14]int{0, 1, 2, 3, 4, 5, 6, 7, 8, 9, 10, 11, 12, 13}, 14)} {
		for tag := 1; tag <= 13; tag++ {
			for _, n := range strange() {
				for _, m := range strange() {
					if got := facts.Same(with(f, tag, n), with(f, tag, m)); got != (n == m) {
						t.Errorf("Same of tag %d, %d and %d, answers %v", tag, n, m, got)
					}
				}
			}
		}
		for _, x := range allFloats() {
			for _, y := range allFloats() {
				want := math.Float64bits(plain(x)) == math.Float64bits(plain(y))
				if got := facts.Same(at(f, x), at(f, y)); got != want {
					t.Errorf("Same of Expires %v and %v answers %v", x, y, got)
				}
				if facts.Same(at(f, x), at(with(f, 13, 99), y)) {
					t.Errorf("Same of Expires %v and %v, and another Decision, answers true", x, y)
				}
			}
		}
	}
}

// TestSameOfPlainForms is of the floats that are the same though their bits aren't.
func TestSameOfPlainForms(t *testing.T) {
	nan := math.Float64frombits(plainNaN)
	for _, c := range []struct {
		x, y float64
		want bool
	}{
		{0, minusZero, true}, {minusZero, minusZero, true}, {nan, nan, true}, {nan, math.Float64frombits(0xFFF8000000000007), true},
		{nan, infinity, false}, {nan, 0, false}, {infinity, math.Inf(-1), false}, {infinity, math.MaxFloat64, false}, {0, math.SmallestNonzeroFloat64, false}, {5, -5, false}, {1, math.Nextafter(1, 2), false},
	} {
		a, b := facts.Fact{Kind: facts.Opened, Expires: c.x}, facts.Fact{Kind: facts.Opened, Expires: c.y}
		if facts.Same(a, b) != c.want || facts.Same(b, a) != c.want {
			t.Errorf("Same of Expires %v and %v doesn't answer %v", c.x, c.y, c.want)
		}
	}
}

// TestFactStays is of calls that leave the fact that they are of as it is.
func TestFactStays(t *testing.T) {
	for _, s := range samples() {
		f, g := s.f, s.f
		f.Right()
		f.Bytes()
		facts.Same(f, g)
		if !alike(f, s.f) || !alike(g, s.f) {
			t.Errorf("%+v has become %+v, %+v", s.f, f, g)
		}
	}
}

func TestAnswersAreTheCallers(t *testing.T) {
	s := samples()[1]
	first, _ := s.f.Bytes()
	second, _ := s.f.Bytes()
	rows, _ := facts.Rows(s.f, s.f)
	for i := range first {
		first[i] = 0xEE
		rows[0][i] = 0xEE
	}
	_ = append(first, 1, 2, 3)
	_ = append(rows[0], 1, 2, 3)
	third, _ := s.f.Bytes()
	if !bytes.Equal(second, s.b) || !bytes.Equal(third, s.b) || !bytes.Equal(rows[1], s.b) {
		t.Errorf("what is answered is shared: %x, %x, %x", second, third, rows[1])
	}
	f, _ := facts.Read(second)
	clear(second)
	if !alike(f, s.f) {
		t.Errorf("a later change of the bytes shows in what was read: %+v", f)
	}
}

// TestExamples is of the chapter's example.
func TestExamples(t *testing.T) {
	if b, err := (facts.Fact{Kind: facts.Forgot}).Bytes(); err != nil || !bytes.Equal(b, []byte{1, 0, 1, 5}) {
		t.Errorf("Bytes of Forgot of a0.0 answers %x, %v", b, err)
	}
}
