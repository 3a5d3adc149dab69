package net_test

import (
	"math"
	"math/rand"
	"slices"
	"strings"
	"testing"

	"liaison/api"
	"liaison/net"
)

// far is numbers that are neither nodes nor places, such as are right in fewer bits among them.
func far() []int {
	return []int{math.MinInt, math.MinInt + 1, -1 << 32, -1<<32 + 1, -256, -64, -2, -1, 65, 100, 128, 256, 257, 1 << 16, 1 << 31, 1 << 32, 1<<32 + 1, math.MaxInt - 1, math.MaxInt}
}

// must does calls that have no error, and a Put that isn't lost.
func must(t *testing.T, n *net.Net, calls ...call) {
	t.Helper()
	for _, c := range calls {
		if a := c.on(n); a.err != nil || a.yes != (c.name == "Put") {
			t.Fatalf("%v answers %v", c, a)
		}
	}
}

// stands holds what is in a net, by its bytes, against what is wanted.
func stands(t *testing.T, n *net.Net, want ...string) {
	t.Helper()
	var list []string
	for _, l := range n.Letters() {
		list = append(list, string(l.Data))
	}
	if !slices.Equal(list, want) || n.Len() != len(want) {
		t.Fatalf("there are %q (%d), not %q", list, n.Len(), want)
	}
}

// abc is a net of two nodes, with three letters from 0 to 1.
func abc(t *testing.T) *net.Net {
	t.Helper()
	n, _ := made(t, 2)
	must(t, n, puts(0, 1, "a"), puts(0, 1, "b"), puts(0, 1, "c"))
	return n
}

// filled is a net of some nodes with as many letters as may be, and it in words.
func filled(t *testing.T, nodes int) (*net.Net, *words) {
	t.Helper()
	n, w := made(t, nodes)
	for i := range api.MaxFlight {
		does(t, n, w, puts(i%nodes, i/3%nodes, string([]byte{byte(i)})))
	}
	return n, w
}

func TestLimits(t *testing.T) {
	if api.MaxNodes != 4 || api.MaxFlight != 64 || api.MaxBytes != 1000 {
		t.Fatal("the tests are made for other limits")
	}
}

func TestNew(t *testing.T) {
	for nodes := 1; nodes <= 4; nodes++ {
		n, w := made(t, nodes)
		does(t, n, w)
		asks(t, n, w)
	}
	for _, nodes := range append(far(), 0, 5, 6, 64, 1<<32+4) {
		if n, err := net.New(nodes); n != nil || !is(err, api.ErrRange) {
			t.Errorf("New(%d) answers %v, %v", nodes, n, err)
		}
	}
}

func TestExample(t *testing.T) {
	n := abc(t)
	stands(t, n, "a", "b", "c")
	must(t, n, moves(2, 0))
	stands(t, n, "c", "a", "b")
	if l, err := n.Take(1); string(l.Data) != "a" || err != nil {
		t.Errorf("Take(1) answers %v, %v", l, err)
	}
	stands(t, n, "c", "b")
}

// TestPutNodes puts letters from and to all numbers around a net's nodes.
func TestPutNodes(t *testing.T) {
	for nodes := 1; nodes <= 4; nodes++ {
		numbers := append(far(), 0, 1, 2, 3, 4, 5)
		for _, from := range numbers {
			for _, to := range numbers {
				n, w := made(t, nodes)
				does(t, n, w, puts(from, to, "x"), puts(from, to, ""), puts(to, from, "y"))
			}
		}
	}
}

func TestPutByHand(t *testing.T) {
	n, _ := made(t, 2)
	for _, one := range []struct {
		from, to int
		data     string
		yes      bool
		err      error
	}{
		{0, 1, "a", true, nil},
		{1, 0, "", true, nil},
		{1, 1, "b", true, nil},
		{0, 0, strings.Repeat("x", 999), true, nil},
		{0, 0, strings.Repeat("y", 1000), true, nil},
		{0, 0, strings.Repeat("z", 1001), false, api.ErrLong},
		{0, 1, strings.Repeat("z", 100000), false, api.ErrLong},
		{0, 2, "a", false, api.ErrRange},
		{2, 0, "a", false, api.ErrRange},
		{-1, 0, "a", false, api.ErrRange},
		{0, -1, "a", false, api.ErrRange},
		{0, 2, strings.Repeat("z", 1001), false, api.ErrRange},
		{-1, 1, strings.Repeat("z", 1001), false, api.ErrRange},
	} {
		yes, err := n.Put(net.Letter{From: one.from, To: one.to, Data: []byte(one.data)})
		if yes != one.yes || !is(err, one.err) {
			t.Errorf("Put of %v answers %v, %v", plain{one.from, one.to, one.data}, yes, err)
		}
	}
	stands(t, n, "a", "", "b", strings.Repeat("x", 999), strings.Repeat("y", 1000))
	if yes, err := n.Put(net.Letter{}); !yes || err != nil {
		t.Errorf("Put of no bytes at all answers %v, %v", yes, err)
	}
	if l, err := n.Take(5); err != nil || l.From != 0 || l.To != 0 || len(l.Data) != 0 {
		t.Errorf("what has no bytes at all is %v, %v", l, err)
	}
	if n.Lost() != 0 {
		t.Errorf("%d are lost", n.Lost())
	}
}

// TestBytes puts letters of all numbers of bytes, and of all bytes.
func TestBytes(t *testing.T) {
	n, w := made(t, 1)
	all := make([]byte, 0, 1002)
	for i := range 1002 {
		does(t, n, w, puts(0, 0, string(all)))
		if i < 1001 {
			does(t, n, w, takes(0))
		} else {
			does(t, n, w)
		}
		all = append(all, byte(i*7))
	}
}

func TestLostByHand(t *testing.T) {
	n, _ := made(t, 3)
	must(t, n, puts(0, 1, "a"), cuts(0, 1, true))
	for i := range 5 {
		if yes, err := n.Put(net.Letter{From: 0, To: 1, Data: []byte("b")}); yes || err != nil || n.Lost() != i+1 {
			t.Errorf("a cut way answers %v, %v, and %d are lost", yes, err, n.Lost())
		}
	}
	must(t, n, puts(1, 0, "c"), puts(0, 2, "d"), puts(2, 1, "e"), puts(0, 0, "f"), puts(1, 1, "g"))
	// What is on its way stays, and may still be copied, moved and taken.
	stands(t, n, "a", "c", "d", "e", "f", "g")
	must(t, n, copies(0), moves(0, 3))
	stands(t, n, "c", "d", "e", "a", "f", "g", "a")
	must(t, n, takes(3))
	if n.Lost() != 5 {
		t.Errorf("%d are lost", n.Lost())
	}
	// It was cut once, whatever was told it besides.
	must(t, n, cuts(0, 1, true), cuts(0, 1, true), cuts(0, 1, false), puts(0, 1, "h"))
	stands(t, n, "c", "d", "e", "f", "g", "a", "h")
	must(t, n, cuts(0, 1, false), puts(0, 1, "i"))
	if n.Lost() != 5 || n.Len() != 8 {
		t.Errorf("%d are lost, and %d on their way", n.Lost(), n.Len())
	}
}

// TestOrderOfPut tells which comes first of all that may keep a letter from being put.
func TestOrderOfPut(t *testing.T) {
	long := strings.Repeat("x", 1001)
	for _, cut := range []bool{false, true} {
		for _, full := range []bool{false, true} {
			n, w := made(t, 2)
			if full {
				n, w = filled(t, 2)
			}
			does(t, n, w, cuts(0, 1, cut))
			want, lost := error(nil), 0
			if cut {
				lost = 1
			} else if full {
				want = api.ErrFull
			}
			for _, one := range []struct {
				c    call
				want error
			}{{puts(0, 2, long), api.ErrRange}, {puts(-1, 1, "a"), api.ErrRange}, {puts(0, 1, long), api.ErrLong}, {puts(0, 1, "a"), want}} {
				if a := one.c.on(n); !is(a.err, one.want) || a.yes != (a.err == nil && !cut) {
					t.Errorf("cut %v, full %v: %v answers %v, not %v", cut, full, one.c, a, one.want)
				}
			}
			if n.Lost() != lost {
				t.Errorf("cut %v, full %v: %d are lost, not %d", cut, full, n.Lost(), lost)
			}
		}
	}
}

// TestCutWays cuts each way alone, and all but it.
func TestCutWays(t *testing.T) {
	for nodes := 1; nodes <= 4; nodes++ {
		for from := range nodes {
			for to := range nodes {
				n, w := made(t, nodes)
				does(t, n, w, cuts(from, to, true))
				asks(t, n, w)
				if n.Lost() != 1 || n.Len() != nodes*nodes-1 {
					t.Errorf("of %d nodes, %d>%d cut, %d are lost", nodes, from, to, n.Lost())
				}
				does(t, n, w, ways(nodes, func(from, to int) call { return cuts(from, to, true) })...)
				does(t, n, w, cuts(from, to, false))
				asks(t, n, w)
				if n.Lost() != nodes*nodes || n.Len() != nodes*nodes {
					t.Errorf("of %d nodes, all but %d>%d cut, %d are lost", nodes, from, to, n.Lost())
				}
			}
		}
	}
}

// TestWrongCuts cuts ways that there are none of: all others are as they were.
func TestWrongCuts(t *testing.T) {
	for nodes := 1; nodes <= 4; nodes++ {
		n, w := made(t, nodes)
		does(t, n, w, cuts(0, nodes-1, true))
		for _, wrong := range append(far(), nodes, nodes+1) {
			for _, right := range []int{0, nodes - 1, wrong} {
				for _, yes := range []bool{true, false} {
					if err := n.Cut(wrong, right, yes); !is(err, api.ErrRange) {
						t.Errorf("of %d nodes Cut(%d, %d, %v) answers %v", nodes, wrong, right, yes, err)
					}
					if err := n.Cut(right, wrong, yes); !is(err, api.ErrRange) {
						t.Errorf("of %d nodes Cut(%d, %d, %v) answers %v", nodes, right, wrong, yes, err)
					}
				}
			}
		}
		asks(t, n, w)
	}
}

func TestTake(t *testing.T) {
	for many := range 5 {
		for i := -1; i <= many; i++ {
			n, w := made(t, 2)
			for one := range many {
				does(t, n, w, puts(one%2, 1, string([]byte{'a', byte(one)})))
			}
			does(t, n, w, takes(i))
			does(t, n, w, puts(0, 1, "behind"))
		}
	}
	n := abc(t)
	for _, i := range append(far(), 3, 4, 63, 64) {
		if l, err := n.Take(i); l.Data != nil || plainOf(l) != (plain{}) || !is(err, api.ErrRange) {
			t.Errorf("Take(%d) answers %v, %v", i, l, err)
		}
	}
	stands(t, n, "a", "b", "c")
	if n, _ := made(t, 2); !is(takes(0).on(n).err, api.ErrRange) {
		t.Error("of a net without letters one can be taken")
	}
}

func TestCopy(t *testing.T) {
	n := abc(t)
	must(t, n, copies(1))
	stands(t, n, "a", "b", "c", "b")
	must(t, n, copies(0), copies(4), copies(2))
	stands(t, n, "a", "b", "c", "b", "a", "a", "c")
	for _, i := range append(far(), 7, 8, 63, 64) {
		if err := n.Copy(i); !is(err, api.ErrRange) {
			t.Errorf("Copy(%d) answers %v", i, err)
		}
	}
	stands(t, n, "a", "b", "c", "b", "a", "a", "c")
	must(t, n, takes(0), takes(3))
	stands(t, n, "b", "c", "b", "a", "c")
	m, w := made(t, 3)
	does(t, m, w, puts(2, 1, "x"), puts(0, 2, "y"), copies(0), copies(1), copies(2))
}

// TestCopyCutWay copies a letter whose way is cut: it isn't put that way.
func TestCopyCutWay(t *testing.T) {
	n := abc(t)
	must(t, n, cuts(0, 1, true), copies(2))
	stands(t, n, "a", "b", "c", "c")
	if n.Lost() != 0 {
		t.Errorf("%d are lost", n.Lost())
	}
}

func TestMoveByHand(t *testing.T) {
	for _, one := range []struct {
		i, to int
		want  string
	}{
		{0, 0, "abcd"}, {0, 1, "bacd"}, {0, 2, "bcad"}, {0, 3, "bcda"},
		{1, 0, "bacd"}, {1, 1, "abcd"}, {1, 2, "acbd"}, {1, 3, "acdb"},
		{2, 0, "cabd"}, {2, 1, "acbd"}, {2, 2, "abcd"}, {2, 3, "abdc"},
		{3, 0, "dabc"}, {3, 1, "adbc"}, {3, 2, "abdc"}, {3, 3, "abcd"},
	} {
		n := abc(t)
		must(t, n, puts(0, 1, "d"), moves(one.i, one.to))
		stands(t, n, strings.Split(one.want, "")...)
	}
}

func TestWrongMoves(t *testing.T) {
	n := abc(t)
	for _, wrong := range append(far(), 3, 4, 63, 64) {
		for _, right := range []int{0, 1, 2, wrong} {
			if err := n.Move(wrong, right); !is(err, api.ErrRange) {
				t.Errorf("Move(%d, %d) answers %v", wrong, right, err)
			}
			if err := n.Move(right, wrong); !is(err, api.ErrRange) {
				t.Errorf("Move(%d, %d) answers %v", right, wrong, err)
			}
			stands(t, n, "a", "b", "c")
		}
	}
	if n, _ := made(t, 1); !is(n.Move(0, 0), api.ErrRange) {
		t.Error("in a net without letters one can be moved")
	}
}

// TestFull is of a net with as many letters as may be: none is put, none copied; all are moved and taken.
func TestFull(t *testing.T) {
	n, w := filled(t, 4)
	for i := -1; i <= 65; i++ {
		want := error(api.ErrFull)
		if i < 0 || i >= 64 {
			want = api.ErrRange
		}
		if err := n.Copy(i); !is(err, want) {
			t.Errorf("Copy(%d) of a full net answers %v, not %v", i, err, want)
		}
		for to := -1; to <= 64; to++ {
			does(t, n, w, moves(i, to))
		}
	}
	if yes, err := n.Put(net.Letter{From: 3, To: 0, Data: []byte("a")}); yes || !is(err, api.ErrFull) {
		t.Errorf("Put to a full net answers %v, %v", yes, err)
	}
	asks(t, n, w)
	does(t, n, w, cuts(3, 0, true))
	asks(t, n, w)
	does(t, n, w, takes(63), copies(62), takes(0), puts(0, 3, "b"), copies(0), puts(0, 0, "c"), takes(64), takes(63), takes(40))
	for range 65 {
		does(t, n, w, takes(0))
	}
	stands(t, n)
	asks(t, n, w)
}

// TestTo is of the letters to each node, and to none.
func TestTo(t *testing.T) {
	n, w := made(t, 4)
	does(t, n, w, puts(0, 1, "a"), puts(1, 2, "b"), puts(1, 1, "c"), puts(3, 0, "d"), puts(2, 1, "e"))
	for node, want := range map[int][]placed{
		0: {{3, plain{3, 0, "d"}}},
		1: {{0, plain{0, 1, "a"}}, {2, plain{1, 1, "c"}}, {4, plain{2, 1, "e"}}},
		2: {{1, plain{1, 2, "b"}}},
		3: nil,
		4: nil,
	} {
		if list := to(n, node); !slices.Equal(list, want) {
			t.Errorf("to %d go %v, not %v", node, list, want)
		}
	}
	for _, node := range far() {
		if list := to(n, node); list != nil {
			t.Errorf("to %d go %v", node, list)
		}
	}
	if n, _ := made(t, 1); to(n, 0) != nil {
		t.Error("in a net without letters some go to a node")
	}
}

// TestToEnds ranges over letters till some: no more are handed out.
func TestToEnds(t *testing.T) {
	n := abc(t)
	for most := 1; most <= 3; most++ {
		var got []string
		n.To(1)(func(i int, l net.Letter) bool {
			if i != len(got) {
				t.Errorf("%q stands at %d", l.Data, i)
			}
			got = append(got, string(l.Data))
			return len(got) < most
		})
		if !slices.Equal(got, []string{"a", "b", "c"}[:most]) {
			t.Errorf("of at most %d are handed out %q", most, got)
		}
	}
}

// TestToStays ranges over letters behind and amid other calls: they are those that were there when To was called.
func TestToStays(t *testing.T) {
	n := abc(t)
	list := n.To(1)
	must(t, n, moves(2, 0), puts(1, 1, "d"), takes(1))
	for range 2 {
		var got []string
		for i, l := range list {
			got = append(got, string(l.Data))
			if i != len(got)-1 || l.From != 0 || l.To != 1 {
				t.Errorf("at %d stands %v", i, l)
			}
			l.Data[0] = 'X'
			must(t, n, takes(0), puts(1, 0, "e"))
		}
		if !slices.Equal(got, []string{"a", "b", "c"}) {
			t.Errorf("behind other calls there are %q", got)
		}
	}
	stands(t, n, "e", "e", "e")
	// From the last place on all may be taken by their places.
	n, w := made(t, 2)
	does(t, n, w, puts(0, 1, "a"), puts(0, 0, "b"), puts(1, 1, "c"), puts(1, 1, "d"), puts(1, 0, "e"))
	for taken := range to(n, 1) {
		list := to(n, 1)
		does(t, n, w, takes(list[len(list)-1].place))
		if want := 4 - taken; n.Len() != want {
			t.Errorf("there are %d, not %d", n.Len(), want)
		}
	}
	stands(t, n, "b", "e")
}

// TestNothingHandedInIsChangedOrKept changes a letter's bytes behind Put.
func TestNothingHandedInIsChangedOrKept(t *testing.T) {
	n, _ := made(t, 2)
	room := []byte("abcdef")
	must(t, n, puts(1, 1, "first"))
	if yes, err := n.Put(net.Letter{To: 1, Data: room[:3]}); !yes || err != nil {
		t.Fatal(yes, err)
	}
	must(t, n, puts(1, 1, "last"), copies(1), moves(1, 0))
	stands(t, n, "abc", "first", "last", "abc")
	room[0] = 'X'
	stands(t, n, "abc", "first", "last", "abc")
	if string(room) != "Xbcdef" {
		t.Errorf("what was handed in is %q", room)
	}
}

// TestAnswersAreTheCallersOwn changes all that is answered, of a letter and of its copy.
func TestAnswersAreTheCallersOwn(t *testing.T) {
	n := abc(t)
	must(t, n, copies(0))
	before, later := n.Letters(), n.To(1)
	for _, list := range [][]net.Letter{n.Letters(), n.Letters()} {
		for i := range list {
			list[i].Data[0] = 'X'
			list[i].Data = append(list[i].Data, "YZ"...)
			list[i].To = 0
		}
		_ = append(list[:0], list[3])
		stands(t, n, "a", "b", "c", "a")
	}
	for range 2 {
		for _, l := range n.To(1) {
			l.Data[0] = 'Y'
			_ = append(l.Data, 'Z')
		}
		stands(t, n, "a", "b", "c", "a")
	}
	for _, want := range []string{"abca", "bca", "ca", "a"} {
		l, err := n.Take(0)
		if err != nil || string(l.Data) != want[:1] {
			t.Fatalf("Take answers %v, %v", l, err)
		}
		l.Data[0] = 'Z'
		stands(t, n, strings.Split(want[1:], "")...)
	}
	must(t, n, puts(0, 1, "d"), puts(0, 1, "e"))
	if list := plains(before); !slices.Equal(list, []plain{{0, 1, "a"}, {0, 1, "b"}, {0, 1, "c"}, {0, 1, "a"}}) {
		t.Errorf("what was answered has become %v", list)
	}
	var got string
	for _, l := range later {
		got += string(l.Data)
	}
	if got != "abca" {
		t.Errorf("what was answered has become %q", got)
	}
}

// TestAnswersAreApart holds that of one answer no two letters share bytes, as a copy may.
func TestAnswersAreApart(t *testing.T) {
	n, _ := made(t, 2)
	must(t, n, puts(0, 1, "a"), copies(0), copies(1))
	list := n.Letters()
	list[1].Data[0] = 'X'
	if string(list[0].Data) != "a" || string(list[2].Data) != "a" {
		t.Errorf("they are %v", plains(list))
	}
	first := net.Letter{}
	for i, l := range n.To(1) {
		if i == 0 {
			first = l
		}
		if string(l.Data) != "a" {
			t.Errorf("the %d-th is %v", i, plainOf(l))
		}
		first.Data[0] = 'Y'
	}
	l, err := n.Take(1)
	if err != nil || string(l.Data) != "a" {
		t.Fatalf("Take answers %v, %v", l, err)
	}
	l.Data[0] = 'Z'
	stands(t, n, "a", "a")
}

// TestNetsAreApart is of two nets: what one is told, the other one doesn't know.
func TestNetsAreApart(t *testing.T) {
	x, w := made(t, 2)
	y, v := made(t, 3)
	does(t, x, w, puts(0, 1, "a"), cuts(0, 1, true), puts(0, 1, "b"))
	does(t, y, v, puts(0, 2, "c"), puts(0, 1, "d"), cuts(2, 2, true))
	does(t, x, w)
	asks(t, x, w)
	does(t, y, v)
	asks(t, y, v)
	does(t, x, w)
}

// TestAllCalls holds all calls against the chapter's words, on all nets of two nodes with at most two letters, whatever is cut, and with three.
func TestAllCalls(t *testing.T) {
	both := ways(2, func(from, to int) call { return puts(from, to, "") })
	heads := [][]call{nil}
	for head := 0; head < len(heads) && len(heads[head]) < 3; head++ {
		for _, c := range both {
			c.data = string([]byte{'a', byte(len(heads[head]))})
			heads = append(heads, append(slices.Clip(heads[head]), c))
		}
	}
	if len(heads) != 1+4+16+64 {
		t.Fatalf("there are %d nets", len(heads))
	}
	for _, head := range heads {
		for cut := range 16 {
			// With three letters just four: no way is cut, half of them, the other half, all.
			if len(head) == 3 && cut%5 != 0 {
				continue
			}
			for _, c := range calls(len(head)) {
				n, w := made(t, 2)
				ahead := slices.Clip(head)
				for i, way := range both {
					if cut>>i&1 == 1 {
						ahead = append(ahead, cuts(way.a, way.b, true))
					}
				}
				does(t, n, w, append(ahead, c)...)
				asks(t, n, w)
			}
		}
	}
}

// calls is all calls of a net of two nodes with so many letters, wrong ones too.
func calls(many int) []call {
	var list []call
	for from := -1; from <= 2; from++ {
		for to := -1; to <= 2; to++ {
			list = append(list, puts(from, to, "new"), cuts(from, to, true), cuts(from, to, false))
		}
	}
	for i := -1; i <= many; i++ {
		list = append(list, takes(i), copies(i))
		for to := -1; to <= many; to++ {
			list = append(list, moves(i, to))
		}
	}
	return append(list, puts(0, 1, strings.Repeat("x", 1000)), puts(0, 1, strings.Repeat("x", 1001)))
}

// TestAllShortOrders is P12.1 of all orders of up to four calls of these.
func TestAllShortOrders(t *testing.T) {
	list := []call{
		puts(0, 1, "a"), puts(1, 0, "b"), puts(1, 1, ""), puts(2, 0, "c"), takes(-1), takes(0), takes(1), copies(0), copies(1), copies(2),
		moves(0, 1), moves(1, 0), moves(0, 2), moves(2, 0), moves(1, 1), cuts(0, 1, true), cuts(0, 1, false), cuts(1, 0, true), cuts(0, 2, true),
	}
	var grow func(ahead []call)
	grow = func(ahead []call) {
		n, w := made(t, 2)
		does(t, n, w, ahead...)
		if len(ahead) == 4 {
			asks(t, n, w)
			return
		}
		for _, c := range list {
			grow(append(slices.Clip(ahead), c))
		}
	}
	grow(nil)
}

// TestLongOrders is P12.1 of long orders of thrown calls, up to as many letters as may be.
func TestLongOrders(t *testing.T) {
	dice := rand.New(rand.NewSource(12))
	full, empty, lost := 0, 0, 0
	for order := range 80 {
		n, w := made(t, 1+order%4)
		for range 300 {
			does(t, n, w, thrown(dice, w.nodes, len(w.letters), order%8 >= 4))
			if len(w.letters) == api.MaxFlight {
				full++
			}
			if len(w.letters) == 0 {
				empty++
			}
		}
		lost += w.lost
		asks(t, n, w)
	}
	if full < 1000 || empty < 250 || lost < 1000 {
		t.Errorf("the orders are too tame: full %d times, empty %d times, %d lost", full, empty, lost)
	}
}

// thrown is a call with numbers around a net's nodes and places; a greedy one puts and copies more than it takes.
func thrown(dice *rand.Rand, nodes, many int, greedy bool) call {
	node := func() int {
		if dice.Intn(20) == 0 {
			return []int{-1, nodes}[dice.Intn(2)]
		}
		return dice.Intn(nodes)
	}
	place := func() int { return dice.Intn(many+2) - 1 }
	n := dice.Intn(12)
	if greedy {
		n = dice.Intn(40)
	}
	switch {
	case n < 3:
		return takes(place())
	case n < 5:
		return moves(place(), place())
	case n < 7:
		return cuts(node(), node(), dice.Intn(3) == 0)
	case n%2 == 0:
		return copies(place())
	}
	data := make([]byte, dice.Intn(12))
	dice.Read(data)
	if dice.Intn(10) == 0 {
		data = make([]byte, 999+dice.Intn(4))
	}
	return puts(node(), node(), string(data))
}
