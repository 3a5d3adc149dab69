package net_test

import (
	"fmt"
	"slices"
	"strings"
	"testing"

	"liaison/api"
	"liaison/net"
)

// The chapter's words, told anew: what the package answers is held against them.

// is tells whether an error is the very one that is wanted, nil too.
func is(err, want error) bool {
	if err == nil || want == nil {
		return err == nil && want == nil
	}
	return err == want
}

// plain is a letter that can be held against another one.
type plain struct {
	from, to int
	data     string
}

// plainOf is a letter's.
func plainOf(l net.Letter) plain {
	return plain{l.From, l.To, string(l.Data)}
}

// letter is a plain one's, with bytes of its own.
func (p plain) letter() net.Letter {
	return net.Letter{From: p.from, To: p.to, Data: []byte(p.data)}
}

func (p plain) String() string {
	if len(p.data) > 20 {
		return fmt.Sprintf("%d>%d %q.. (%d)", p.from, p.to, p.data[:20], len(p.data))
	}
	return fmt.Sprintf("%d>%d %q", p.from, p.to, p.data)
}

// plains is letters that can be held against others.
func plains(list []net.Letter) []plain {
	var all []plain
	for _, l := range list {
		all = append(all, plainOf(l))
	}
	return all
}

// placed is a plain letter and its place.
type placed struct {
	place int
	plain plain
}

// to is all that a net answers of a node's letters.
func to(n *net.Net, node int) []placed {
	var list []placed
	for i, l := range n.To(node) {
		list = append(list, placed{i, plainOf(l)})
	}
	return list
}

// words is a net as the chapter's words tell it: the cut ways are a text, each behind a blank.
type words struct {
	nodes   int
	letters []plain
	cuts    string
	lost    int
}

// isNode tells whether a net has a node.
func (w *words) isNode(node int) bool {
	for one := range w.nodes {
		if one == node {
			return true
		}
	}
	return false
}

// wayText is a way as it stands in the text of cuts.
func wayText(from, to int) string {
	return fmt.Sprint(" ", from, ">", to)
}

func (w *words) put(p plain) (bool, error) {
	if !w.isNode(p.from) || !w.isNode(p.to) {
		return false, api.ErrRange
	}
	if len(p.data) > 1000 {
		return false, api.ErrLong
	}
	if strings.Contains(w.cuts, wayText(p.from, p.to)) {
		w.lost++
		return false, nil
	}
	if len(w.letters) >= 64 {
		return false, api.ErrFull
	}
	w.letters = append(w.letters, p)
	return true, nil
}

// without is the letters without the i-th, and that one, if there is one.
func (w *words) without(i int) ([]plain, plain, bool) {
	var others []plain
	var one plain
	found := false
	for place, l := range w.letters {
		if place == i {
			one, found = l, true
		} else {
			others = append(others, l)
		}
	}
	return others, one, found
}

func (w *words) take(i int) (plain, error) {
	others, one, found := w.without(i)
	if !found {
		return plain{}, api.ErrRange
	}
	w.letters = others
	return one, nil
}

func (w *words) copies(i int) error {
	_, one, found := w.without(i)
	if !found {
		return api.ErrRange
	}
	if len(w.letters) >= 64 {
		return api.ErrFull
	}
	w.letters = append(w.letters, one)
	return nil
}

func (w *words) move(i, to int) error {
	others, one, found := w.without(i)
	if _, _, place := w.without(to); !found || !place {
		return api.ErrRange
	}
	var list []plain
	for place := range w.letters {
		if place == to {
			list = append(list, one)
		} else {
			list, others = append(list, others[0]), others[1:]
		}
	}
	w.letters = list
	return nil
}

func (w *words) cut(from, to int, is bool) error {
	if !w.isNode(from) || !w.isNode(to) {
		return api.ErrRange
	}
	w.cuts = strings.ReplaceAll(w.cuts, wayText(from, to), "")
	if is {
		w.cuts += wayText(from, to)
	}
	return nil
}

// to is places and letters to a node.
func (w *words) to(node int) []placed {
	var list []placed
	for i, l := range w.letters {
		if l.to == node {
			list = append(list, placed{i, l})
		}
	}
	return list
}

// call is a call of a net's: a letter's From and To, or two numbers.
type call struct {
	name string
	a, b int
	data string
	is   bool
}

// answer is what a call answers: those that answer nothing of a kind leave it as it is.
type answer struct {
	yes bool
	l   plain
	err error
}

// sameAs tells whether two answers are the same.
func (a answer) sameAs(b answer) bool {
	return a.yes == b.yes && a.l == b.l && is(a.err, b.err)
}

// on lets a net do a call.
func (c call) on(n *net.Net) answer {
	var a answer
	switch c.name {
	case "Put":
		a.yes, a.err = n.Put(plain{c.a, c.b, c.data}.letter())
	case "Take":
		l, err := n.Take(c.a)
		a.l, a.err = plainOf(l), err
	case "Copy":
		a.err = n.Copy(c.a)
	case "Move":
		a.err = n.Move(c.a, c.b)
	case "Cut":
		a.err = n.Cut(c.a, c.b, c.is)
	}
	return a
}

// words lets the chapter's words do a call.
func (c call) words(w *words) answer {
	var a answer
	switch c.name {
	case "Put":
		a.yes, a.err = w.put(plain{c.a, c.b, c.data})
	case "Take":
		a.l, a.err = w.take(c.a)
	case "Copy":
		a.err = w.copies(c.a)
	case "Move":
		a.err = w.move(c.a, c.b)
	case "Cut":
		a.err = w.cut(c.a, c.b, c.is)
	}
	return a
}

// String is a call as it is told where a test fails.
func (c call) String() string {
	switch c.name {
	case "Put":
		return "Put " + plain{c.a, c.b, c.data}.String()
	case "Cut":
		return fmt.Sprintf("Cut %d>%d %v", c.a, c.b, c.is)
	}
	return fmt.Sprintf("%s(%d, %d)", c.name, c.a, c.b)
}

// made is a net, and it in words.
func made(t *testing.T, nodes int) (*net.Net, *words) {
	t.Helper()
	n, err := net.New(nodes)
	if err != nil || n == nil {
		t.Fatalf("New(%d) answers %v, %v", nodes, n, err)
	}
	return n, &words{nodes: nodes}
}

// does does calls on a net and in words; it fails if they don't answer the same, or the net isn't as it is told behind the last.
func does(t *testing.T, n *net.Net, w *words, calls ...call) {
	t.Helper()
	for i, c := range calls {
		if got, want := c.on(n), c.words(w); !got.sameAs(want) {
			t.Fatalf("%v: the last one answers %v, not %v", calls[:i+1], got, want)
		}
	}
	if n.Len() != len(w.letters) || n.Lost() != w.lost {
		t.Fatalf("behind %v there are %d letters, %d lost, not %d, %d", calls, n.Len(), n.Lost(), len(w.letters), w.lost)
	}
	if list := plains(n.Letters()); !slices.Equal(list, w.letters) {
		t.Fatalf("behind %v there are %v, not %v", calls, list, w.letters)
	}
	for node := -1; node <= w.nodes; node++ {
		if list := to(n, node); !slices.Equal(list, w.to(node)) {
			t.Fatalf("behind %v to %d go %v, not %v", calls, node, list, w.to(node))
		}
	}
}

// ways is a call on each way between so many nodes.
func ways(nodes int, each func(from, to int) call) []call {
	var list []call
	for from := range nodes {
		for to := range nodes {
			list = append(list, each(from, to))
		}
	}
	return list
}

// asks tells of each way whether it is cut: a letter is put each way, which leaves the net another one.
func asks(t *testing.T, n *net.Net, w *words) {
	t.Helper()
	does(t, n, w, ways(w.nodes, func(from, to int) call { return puts(from, to, "?") })...)
}

func puts(from, to int, data string) call { return call{name: "Put", a: from, b: to, data: data} }
func takes(i int) call                    { return call{name: "Take", a: i} }
func copies(i int) call                   { return call{name: "Copy", a: i} }
func moves(i, to int) call                { return call{name: "Move", a: i, b: to} }
func cuts(from, to int, is bool) call     { return call{name: "Cut", a: from, b: to, is: is} }
