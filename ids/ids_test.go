package ids_test

import (
	"math"
	"math/big"
	"regexp"
	"strings"
	"testing"

	"liaison/api"
	"liaison/ids"
)

// greatest is the greatest number of all, by the chapter.
const greatest = 999999

// is tells whether an error is the very one that is wanted, nil too.
func is(err, want error) bool {
	if err == nil || want == nil {
		return err == nil && want == nil
	}
	return err == want
}

// kind is one of the four kinds of texts, its calls made alike: of as many numbers as it has bounds.
type kind struct {
	name   string
	form   *regexp.Regexp
	bounds []int
	write  func(n []int) (string, error)
	read   func(s string) ([]int, error)
}

const number = `(0|[1-9][0-9]*)`

// all is the four kinds, made once: their forms are dear.
var all = kinds()

func kinds() []kind {
	return []kind{
		{
			"Node", regexp.MustCompile(`\An` + number + `\z`), []int{4},
			func(n []int) (string, error) { return ids.Node(n[0]) },
			func(s string) ([]int, error) {
				n, err := ids.ToNode(s)
				return []int{n}, err
			},
		},
		{
			"Act", regexp.MustCompile(`\Aa` + number + `\.` + number + `\z`), []int{4, 1000000},
			func(n []int) (string, error) { return ids.Act(api.Act{Node: n[0], Seq: n[1]}) },
			func(s string) ([]int, error) {
				a, err := ids.ToAct(s)
				return []int{a.Node, a.Seq}, err
			},
		},
		{
			"Reg", regexp.MustCompile(`\Aa` + number + `\.` + number + `/` + number + `\z`), []int{4, 1000000, 6},
			func(n []int) (string, error) { return ids.Reg(api.Act{Node: n[0], Seq: n[1]}, n[2]) },
			func(s string) ([]int, error) {
				a, reg, err := ids.ToReg(s)
				return []int{a.Node, a.Seq, reg}, err
			},
		},
		{
			"Part", regexp.MustCompile(`\Ap` + number + `\.` + number + `\z`), []int{4, 8},
			func(n []int) (string, error) { return ids.Part(n[0], n[1]) },
			func(s string) ([]int, error) {
				node, part, err := ids.ToPart(s)
				return []int{node, part}, err
			},
		},
	}
}

// alike tells whether two lists of numbers are the same.
func alike(a, b []int) bool {
	if len(a) != len(b) {
		return false
	}
	for i := range a {
		if a[i] != b[i] {
			return false
		}
	}
	return true
}

// expected is what the reading call of a kind is to answer, of the words of the chapter one by one.
func (k kind) expected(s string) ([]int, error) {
	zeros := make([]int, len(k.bounds))
	found := k.form.FindStringSubmatch(s)
	if found == nil {
		return zeros, api.ErrForm
	}
	numbers := make([]int, len(k.bounds))
	for i, digits := range found[1:] {
		n, ok := new(big.Int).SetString(digits, 10)
		if !ok || n.Cmp(big.NewInt(int64(k.bounds[i]))) >= 0 {
			return zeros, api.ErrRange
		}
		numbers[i] = int(n.Int64())
	}
	return numbers, nil
}

// reads fails if one of the four reading calls doesn't answer what is expected, or what is read isn't written to the same text.
func reads(t *testing.T, s string) {
	t.Helper()
	for _, k := range all {
		k.reads(t, s)
	}
}

func (k kind) reads(t *testing.T, s string) {
	t.Helper()
	numbers, err := k.read(s)
	want, wantErr := k.expected(s)
	if !is(err, wantErr) || !alike(numbers, want) {
		t.Fatalf("To%s(%q) answers %v, %v, not %v, %v", k.name, s, numbers, err, want, wantErr)
	}
	if err != nil {
		return
	}
	if again, err := k.write(numbers); err != nil || again != s {
		t.Fatalf("what is read of %q is written as %q, %v", s, again, err)
	}
}

func TestLimits(t *testing.T) {
	if api.MaxNodes != 4 || api.MaxSeq != greatest+1 || api.MaxRegs != 6 || api.MaxParts != 8 {
		t.Fatalf("the tests are made for other limits than %d nodes, %d numbers, %d registrations, %d participants", api.MaxNodes, api.MaxSeq, api.MaxRegs, api.MaxParts)
	}
}

func TestNodes(t *testing.T) {
	for n, want := range []string{"n0", "n1", "n2", "n3"} {
		if s, err := ids.Node(n); err != nil || s != want {
			t.Errorf("Node(%d) answers %q, %v, not %q", n, s, err, want)
		}
		if got, err := ids.ToNode(want); err != nil || got != n {
			t.Errorf("ToNode(%q) answers %d, %v, not %d", want, got, err, n)
		}
	}
}

func TestActs(t *testing.T) {
	for _, c := range []struct {
		node, seq int
		want      string
	}{
		{0, 0, "a0.0"}, {0, 1, "a0.1"}, {2, 17, "a2.17"}, {1, 9, "a1.9"}, {1, 10, "a1.10"}, {3, 100, "a3.100"}, {0, 1020, "a0.1020"},
		{3, 99999, "a3.99999"}, {3, 100000, "a3.100000"}, {0, 123456, "a0.123456"}, {1, 999998, "a1.999998"}, {3, greatest, "a3.999999"},
	} {
		a := api.Act{Node: c.node, Seq: c.seq}
		if s, err := ids.Act(a); err != nil || s != c.want {
			t.Errorf("Act(%v) answers %q, %v, not %q", a, s, err, c.want)
		}
		if got, err := ids.ToAct(c.want); err != nil || got != a {
			t.Errorf("ToAct(%q) answers %v, %v, not %v", c.want, got, err, a)
		}
		if !ids.Right(a) {
			t.Errorf("Right(%v) answers false", a)
		}
	}
}

func TestRegs(t *testing.T) {
	for _, c := range []struct {
		node, seq, reg int
		want           string
	}{
		{0, 1, 3, "a0.1/3"}, {0, 0, 0, "a0.0/0"}, {2, 17, 3, "a2.17/3"}, {1, 2, 1, "a1.2/1"}, {1, 2, 2, "a1.2/2"}, {1, 30, 4, "a1.30/4"}, {3, greatest, 5, "a3.999999/5"},
	} {
		a := api.Act{Node: c.node, Seq: c.seq}
		if s, err := ids.Reg(a, c.reg); err != nil || s != c.want {
			t.Errorf("Reg(%v, %d) answers %q, %v, not %q", a, c.reg, s, err, c.want)
		}
		if got, reg, err := ids.ToReg(c.want); err != nil || got != a || reg != c.reg {
			t.Errorf("ToReg(%q) answers %v, %d, %v, not %v, %d", c.want, got, reg, err, a, c.reg)
		}
	}
}

func TestParts(t *testing.T) {
	for _, c := range []struct {
		node, part int
		want       string
	}{
		{0, 0, "p0.0"}, {0, 1, "p0.1"}, {1, 0, "p1.0"}, {1, 2, "p1.2"}, {2, 1, "p2.1"}, {2, 6, "p2.6"}, {3, 7, "p3.7"},
	} {
		if s, err := ids.Part(c.node, c.part); err != nil || s != c.want {
			t.Errorf("Part(%d, %d) answers %q, %v, not %q", c.node, c.part, s, err, c.want)
		}
		if node, part, err := ids.ToPart(c.want); err != nil || node != c.node || part != c.part {
			t.Errorf("ToPart(%q) answers %d, %d, %v, not %d, %d", c.want, node, part, err, c.node, c.part)
		}
	}
}

// wrongNumbers is numbers that aren't below a bound, or are below 0: at the edges, and such as are right in fewer bits.
func wrongNumbers(bound int) []int {
	return []int{
		-1, -2, -bound, -bound - 1, -256, -1 << 32, -1<<32 + 1, math.MinInt32, math.MinInt + 1, math.MinInt,
		bound, bound + 1, 10 * bound, greatest + 1, greatest + 2, 1 << 24, 1<<31 - 1, 1 << 31, 1 << 32, 1<<32 + 1, math.MaxInt - 1, math.MaxInt,
	}
}

// TestNoText is of numbers that have no text, at each place, beside right and wrong ones.
func TestNoText(t *testing.T) {
	for _, k := range all {
		for place, bound := range k.bounds {
			for _, wrong := range wrongNumbers(bound) {
				for _, other := range []int{0, 1, 3, -1, 4, math.MaxInt} {
					numbers := []int{other, other, other}[:len(k.bounds)]
					numbers[place] = wrong
					if s, err := k.write(numbers); !is(err, api.ErrRange) || s != "" {
						t.Errorf("%s of %v answers %q, %v", k.name, numbers, s, err)
					}
				}
			}
		}
	}
}

func TestRight(t *testing.T) {
	nodes := append([]int{0, 1, 2, 3}, wrongNumbers(4)...)
	seqs := append([]int{0, 1, 3, 4, 17, 1000, 999998, greatest}, wrongNumbers(1000000)...)
	for _, node := range nodes {
		for _, seq := range seqs {
			a := api.Act{Node: node, Seq: seq}
			want := 0 <= node && node <= 3 && 0 <= seq && seq <= greatest
			if got := ids.Right(a); got != want {
				t.Errorf("Right(%v) answers %v", a, got)
			}
			if _, err := ids.Act(a); (err == nil) != want {
				t.Errorf("Act(%v) answers %v", a, err)
			}
		}
	}
}

// TestThereAndBack is P5.2: what has a text is read from it; so no two have the same.
func TestThereAndBack(t *testing.T) {
	for _, k := range all {
		numbers := make([]int, len(k.bounds))
		var each func(place int)
		each = func(place int) {
			if place == len(numbers) {
				s, err := k.write(numbers)
				if err != nil {
					t.Fatalf("%s of %v answers %v", k.name, numbers, err)
				}
				if got, err := k.read(s); err != nil || !alike(got, numbers) {
					t.Fatalf("To%s(%q) answers %v, %v, not %v", k.name, s, got, err, numbers)
				}
				return
			}
			for _, n := range below(k.bounds[place]) {
				numbers[place] = n
				each(place + 1)
			}
		}
		each(0)
	}
}

// below is all numbers below a bound; of a great one those of all lengths, spread.
func below(bound int) []int {
	var list []int
	for n := 0; n < bound; n++ {
		if n > 2000 && bound-n > 100 {
			n += 96
		}
		list = append(list, min(n, bound-1))
	}
	return list
}

func TestAllNumbersOfActs(t *testing.T) {
	for seq := range greatest + 1 {
		a := api.Act{Node: seq % 4, Seq: seq}
		s, err := ids.Act(a)
		if err != nil {
			t.Fatalf("Act(%v) answers %v", a, err)
		}
		if got, err := ids.ToAct(s); err != nil || got != a {
			t.Fatalf("ToAct(%q) answers %v, %v", s, got, err)
		}
	}
}

func TestWrongForms(t *testing.T) {
	for _, c := range []struct {
		call  func(s string) ([]int, error)
		texts []string
	}{
		{all[0].read, []string{
			"", "n", "1", "04", "n04", "n00", "n000", "n01", "n0000004", "N1", "p1", "a1", "nn1", "n1n", "n-1", "n+1", "n-0", "n+0", "n 1", " n1", "n1 ", "n1\n", "n\n1",
			"n1\x00", "\x00n1", "n1.", "n1.0", "n.1", "n1,0", "n1e0", "n0x1", "n0b1", "n0o1", "n1_0", "n_1", "n1/", "n１", "n١", "ｎ1", "n\xff", "n\x81", "n²", "nx", "n/", "n:", "n1:", "n1/2",
		}},
		{all[1].read, []string{
			"", "a", "a.", "a1", "a1.", "a.1", "1.1", "a1.1.", "a1.1.1", "a1..1", "a.1.1", "a01.1", "a1.01", "a00.1", "a1.00", "a0.01", "a1.017", "n1.1", "p1.1", "A1.1", "aa1.1", "a1,1", "a1/1",
			"a-1.1", "a1.-1", "a+1.1", "a1.+1", "a 1.1", "a1 .1", "a1. 1", " a1.1", "a1.1 ", "a1.1\n", "a1.1/", "a1.1/0", "a1.1/3", "a1.1e1", "a1.1_0", "a1.0x1", "a1.１", "a1。1", "a11", "a1\x001",
		}},
		{all[2].read, []string{
			"", "a", "a1", "a1.1", "a1.1/", "a1.1.1", "a1/1.1", "a1/1/1", "a1.1/1/", "a1.1/1/1", "a1.1//1", "a1.1/01", "a1.1/00", "a1.01/1", "a01.1/1", "a1./1", "a.1/1", "a1.1/-1", "a1.1/+1",
			"a1.1/ 1", "a1.1 /1", "a1.1/1 ", " a1.1/1", "a1.1/1\n", "n1.1/1", "p1.1/1", "A1.1/1", "a1.1\\1", "a1.1:1", "a1.1/x", "a1.1/１", "a1.1/1.", "a1.1/1.1", "1.1/1",
		}},
		{all[3].read, []string{
			"", "p", "p.", "p1", "p1.", "p.1", "1.1", "p1.1.", "p1..1", "p01.1", "p1.01", "p00.1", "p1.00", "a1.1", "n1.1", "P1.1", "pp1.1", "p1,1", "p1/1", "p-1.1", "p1.-1", "p+1.1", "p1.+1",
			"p 1.1", "p1. 1", " p1.1", "p1.1 ", "p1.1\n", "p1.1/0", "p1.1/", "p1.１", "p1.1e0", "p11", "p1.0x1",
		}},
	} {
		for _, s := range c.texts {
			if numbers, err := c.call(s); !is(err, api.ErrForm) || !alike(numbers, make([]int, len(numbers))) {
				t.Errorf("a reading call of %q answers %v, %v, not ErrForm", s, numbers, err)
			}
		}
	}
}

// greats is numbers' texts that are too great for every place: such as are right in fewer bits, and very long ones.
func greats() []string {
	return []string{
		"1000000", "1000001", "9999999", "10000000", "16777216", "2147483648", "4294967296", "4294967297", "4294967298", "9223372036854775807", "9223372036854775808", "9223372036854775809",
		"18446744073709551615", "18446744073709551616", "18446744073709551617", "18446744073709551619", "36893488147419103233", "340282366920938463463374607431768211457",
		"100000000000000000000", "1" + strings.Repeat("0", 64), "1" + strings.Repeat("0", 5000) + "1", strings.Repeat("9", 5000),
	}
}

func TestTooGreat(t *testing.T) {
	for _, k := range all {
		for place, bound := range k.bounds {
			least := big.NewInt(int64(bound)).String()
			for _, great := range append(greats(), least) {
				for _, other := range []string{"0", "3", "5", great} {
					s := k.text(place, great, other)
					if numbers, err := k.read(s); !is(err, api.ErrRange) || !alike(numbers, make([]int, len(k.bounds))) {
						t.Errorf("To%s(%q) answers %v, %v, not ErrRange", k.name, s, numbers, err)
					}
				}
			}
		}
	}
}

// text is a kind's text with digits at a place, and other ones at all others.
func (k kind) text(place int, digits, other string) string {
	s := ""
	for i, mark := range marks(k.name) {
		s += mark
		if i == place {
			s += digits
		} else {
			s += other
		}
	}
	return s
}

// marks is what stands ahead of the numbers of a kind.
func marks(name string) []string {
	return map[string][]string{"Node": {"n"}, "Act": {"a", "."}, "Reg": {"a", ".", "/"}, "Part": {"p", "."}}[name]
}

// TestFormGoesAhead is of texts that are too great at one place, and wrong at another, ahead of it or behind: it isn't such a text.
func TestFormGoesAhead(t *testing.T) {
	for _, k := range all {
		for place := range k.bounds {
			for _, great := range greats() {
				for _, other := range []string{"", "00", "01", "-1", "+1", "x", " 1", "１", "0" + great, great + "x"} {
					s := k.text(place, great, other)
					if len(k.bounds) == 1 {
						s += " "
					}
					if _, err := k.read(s); !is(err, api.ErrForm) {
						t.Errorf("To%s(%q) answers %v, not ErrForm", k.name, s, err)
					}
				}
				right := k.text(place, great, "1")
				for _, s := range []string{right + " ", " " + right, right + ".", right + "/", right + ".1x", right[1:], "x" + right[1:], strings.ToUpper(right), k.text(place, "0"+great, "1")} {
					if _, err := k.read(s); !is(err, api.ErrForm) {
						t.Errorf("To%s(%q) answers %v, not ErrForm", k.name, s, err)
					}
				}
			}
		}
	}
}

// TestAllShortTexts is P5.1 of all texts up to 6 bytes of few kinds, by which marks, numbers and edges stand in all orders.
func TestAllShortTexts(t *testing.T) {
	bytes := []byte("nap./036")
	var grow func(s string)
	grow = func(s string) {
		reads(t, s)
		if len(s) == 6 {
			return
		}
		for _, b := range bytes {
			grow(s + string(b))
		}
	}
	grow("")
}

// TestNumbersOfAllEdges is of digits at each place, around all bounds.
func TestNumbersOfAllEdges(t *testing.T) {
	digits := []string{"", "0", "00", "1", "01", "3", "4", "04", "5", "6", "06", "7", "8", "9", "10", "99", "100", "999998", "999999", "0999999", "1000000", "01000000", "4294967295", "18446744073709551616"}
	for _, k := range all {
		for place := range k.bounds {
			for _, d := range digits {
				for _, other := range digits {
					reads(t, k.text(place, d, other))
				}
			}
		}
	}
}

// TestChangedTexts is of right and great texts with one byte changed to every other, taken out, or put in.
func TestChangedTexts(t *testing.T) {
	for _, s := range []string{"n0", "n3", "n4", "n10", "a0.0", "a2.17", "a3.999999", "a4.1000000", "a0.1/3", "a3.999999/5", "a10.1000000/6", "p0.0", "p3.7", "p4.8", "p10.10"} {
		for i := range len(s) + 1 {
			for b := range 256 {
				reads(t, s[:i]+string([]byte{byte(b)})+s[i:])
				if i < len(s) {
					reads(t, s[:i]+string([]byte{byte(b)})+s[i+1:])
				}
			}
			reads(t, s[:i])
			reads(t, s[i:])
			if i < len(s) {
				reads(t, s[:i]+s[i+1:])
			}
		}
	}
}

// TestLongTexts is of texts of very many bytes: each one ends, and soon.
func TestLongTexts(t *testing.T) {
	const many = 1 << 22
	nines, zeros := strings.Repeat("9", many), strings.Repeat("0", many)
	for _, c := range []struct {
		s    string
		want error
	}{
		{"n" + nines, api.ErrRange}, {"n1" + zeros, api.ErrRange}, {"n" + zeros, api.ErrForm}, {"n" + zeros + "1", api.ErrForm}, {"n" + nines + "x", api.ErrForm},
		{nines, api.ErrForm}, {strings.Repeat("n1", many), api.ErrForm}, {strings.Repeat("n", many), api.ErrForm},
	} {
		if n, err := ids.ToNode(c.s); !is(err, c.want) || n != 0 {
			t.Errorf("ToNode of %d bytes (%q ..) answers %d, %v, not %v", len(c.s), c.s[:3], n, err, c.want)
		}
	}
	if a, reg, err := ids.ToReg("a" + nines + "." + nines + "/" + nines); !is(err, api.ErrRange) || a != (api.Act{}) || reg != 0 {
		t.Errorf("ToReg of long numbers answers %v, %d, %v", a, reg, err)
	}
	if a, reg, err := ids.ToReg("a" + nines + "." + nines + "/" + zeros); !is(err, api.ErrForm) || a != (api.Act{}) || reg != 0 {
		t.Errorf("ToReg of long numbers and zeros answers %v, %d, %v", a, reg, err)
	}
}

// TestExamples is of the chapter's examples.
func TestExamples(t *testing.T) {
	if s, err := ids.Act(api.Act{Node: 2, Seq: 17}); s != "a2.17" || err != nil {
		t.Errorf("Act of 2, 17 answers %q, %v", s, err)
	}
	if a, reg, err := ids.ToReg("a0.1/3"); a != (api.Act{Node: 0, Seq: 1}) || reg != 3 || err != nil {
		t.Errorf("ToReg answers %v, %d, %v", a, reg, err)
	}
	if n, err := ids.ToNode("n4"); n != 0 || !is(err, api.ErrRange) {
		t.Errorf("ToNode of n4 answers %d, %v", n, err)
	}
	if n, err := ids.ToNode("n04"); n != 0 || !is(err, api.ErrForm) {
		t.Errorf("ToNode of n04 answers %d, %v", n, err)
	}
}
