package store_test

import (
	"fmt"
	"math"
	"slices"
	"testing"

	"liaison/api"
	"liaison/facts"
	"liaison/store"
)

// Tests of facts in every order, and of P15.2.

// few is facts that are enough for each state of a small store to follow, and each error, each with others that are nearly the same.
func few() []facts.Fact {
	return []facts.Fact{
		opened(0, api.Atomic), opened(2, api.Mixed), below(1, 1), below(2, 2), at(0, opened(0, api.Atomic)),
		enrolled(0, 0, 0, 0, api.PC), enrolled(0, 1, 0, 0, api.PC), enrolled(0, 1, 0, 1, api.CC), enrolled(2, 0, 0, 0, api.CC),
		seated(0, 0, api.Completed, 0), seated(0, 0, api.Ended, api.Exit), seated(0, 1, api.Completing, 0), seated(0, 1, api.Ended, api.Closed), seated(2, 0, api.Ended, api.Fail),
		decided(0, 1), decided(1, 2), decided(2, 1), forgot(0), forgot(1), forgot(2),
		joined(0, own(0), api.PC), joined(1, own(1), api.CC), placed(0, 0), placed(0, 3), placed(1, 1), turned(0, api.Completed, 0), turned(0, api.Active, 0), turned(1, api.Ended, api.Canceled),
	}
}

// spot is what is known at a spot, and facts by which it is come to.
type spot struct {
	w    *words
	path []facts.Fact
}

// TestAllOrders goes from each store that few facts come to, by few steps, on by each fact.
func TestAllOrders(t *testing.T) {
	seen := map[string]bool{}
	spots := []spot{{w: begin(1)}}
	counts := map[bool]int{}
	for i := 0; i < len(spots) && len(spots[i].path) < 9; i++ {
		at := spots[i]
		s := made(t, 1, at.path...)
		for _, f := range few() {
			w := at.w.copied()
			if w.apply(f) != nil {
				applies(t, s, at.w, f)
				counts[false]++
				continue
			}
			counts[true]++
			next := made(t, 1, append(slices.Clone(at.path), f)...)
			if key := w.told(); told(next) != key {
				t.Fatalf("behind %+v, %+v there is\n%s\nnot\n%s", at.path, f, told(next), key)
			} else if !seen[key] {
				seen[key] = true
				spots = append(spots, spot{w, append(slices.Clone(at.path), f)})
			}
		}
		holds(t, s, at.w)
		asked(t, s, at.w)
	}
	if len(seen) < 6000 || counts[true] < 30000 || counts[false] < 70000 {
		t.Errorf("just %d stores, %v", len(seen), counts)
	}
}

// replays fails if a store of the store's facts, or of the facts that made it, doesn't know the same.
func replays(t *testing.T, s *store.Store, history []facts.Fact) {
	t.Helper()
	for _, list := range [][]facts.Fact{s.Facts(), history} {
		x, err := store.Replay(s.Node(), rowsOf(t, list...))
		if err != nil || told(x) != told(s) || !store.Same(x, s) || !store.Same(s, x) {
			t.Fatalf("of\n%+v\nReplay answers %v, not\n%s", list, err, told(s))
		}
	}
}

// needed fails if a store's facts without one of them make one that is the same.
func needed(t *testing.T, s *store.Store) {
	t.Helper()
	list := s.Facts()
	for i := range list {
		rows := rowsOf(t, slices.Delete(slices.Clone(list), i, i+1)...)
		if x, err := store.Replay(s.Node(), rows); err == nil && (store.Same(x, s) || told(x) == told(s)) {
			t.Fatalf("of\n%+v\nthe fact %d isn't needed", list, i)
		}
	}
}

// thrown is a fact by dice, such as may fit what is known.
func thrown(roll func(int) int, w *words) facts.Fact {
	of := func(list ...int) int { return list[roll(len(list))] }
	seq := roll(w.next + 2)
	if seqs := w.seqs(); len(seqs) > 0 && roll(8) > 0 {
		seq = seqs[roll(len(seqs))]
	}
	f := facts.Fact{Kind: 1 + roll(8), Act: api.Act{Node: w.node, Seq: seq}}
	if roll(40) == 0 {
		f.Act.Node = roll(4)
	}
	p := min(roll(len(w.parts)+1), 7)
	to := allPlaces()[roll(len(allPlaces()))]
	switch f.Kind {
	case facts.Opened:
		f.Act.Seq = min(w.next+of(-1, 0, 0, 0, 1, 5), 999999)
		f.Outcome, f.Depth, f.Expires = of(1, 1, 2), roll(4), math.Float64frombits(uint64(roll(0x7FF0))<<48)
		f.Parent = of(0, min(roll(len(w.parts)+2), 8))
	case facts.Enrolled:
		f.Reg = min(max(len(w.acts[seq].regs)+of(0, 0, 0, 0, 0, 1, -1), 0), 5)
		f.Node, f.Part, f.Protocol = roll(4), roll(8), of(1, 2)
	case facts.Seated:
		f.Reg, f.State, f.How = min(roll(len(w.acts[seq].regs)+1), 5), to.state, to.how
	case facts.Decided:
		f.Decision = of(1, 2)
	case facts.Joined:
		f.Part, f.Act, f.Protocol = min(max(len(w.parts)+of(0, 0, 0, 1, -1), 0), 7), api.Act{Node: roll(4), Seq: roll(10)}, of(1, 2)
	case facts.Placed:
		f = facts.Fact{Kind: f.Kind, Part: p, Reg: roll(6)}
	case facts.Turned:
		f = facts.Fact{Kind: f.Kind, Part: p, State: to.state, How: to.how}
	}
	if f.Act.Seq < 0 || roll(60) == 0 {
		f.Act.Seq = of(-1, 1000000, math.MinInt)
	}
	return f
}

// ending is a fact that lets a store come on: of an activity that is there the first registration that hasn't ended ends, or it is forgotten.
func ending(roll func(int) int, w *words) (facts.Fact, bool) {
	seqs := w.seqs()
	if len(seqs) == 0 {
		return facts.Fact{}, false
	}
	a := w.acts[seqs[roll(len(seqs))]]
	for i, r := range a.regs {
		if r.state != 14 {
			return facts.Fact{Kind: facts.Seated, Act: a.opened.Act, Reg: i, State: 14, How: []int{1, 4, 5, 6, 7, 8}[roll(6)]}, true
		}
	}
	return facts.Fact{Kind: facts.Forgot, Act: a.opened.Act}, true
}

// TestThrown is of long orders of thrown facts, at each node.
func TestThrown(t *testing.T) {
	counts := map[string]int{}
	for round := range 45 {
		roll := dice(uint64(15 + round))
		w := begin(round % 4)
		s := made(t, w.node)
		var history []facts.Fact
		for step := range 400 {
			f := thrown(roll, w)
			if end, there := ending(roll, w); there && roll(6) == 0 {
				f = end
			}
			done := applies(t, s, w, f)
			counts[fmt.Sprint(f.Kind, done)]++
			if done {
				history = append(history, f)
			}
			holds(t, s, w)
			if step%20 == 0 {
				asked(t, s, w)
				replays(t, s, history)
				needed(t, s)
			}
		}
	}
	for kind := 1; kind <= 8; kind++ {
		if counts[fmt.Sprint(kind, true)] < 200 || counts[fmt.Sprint(kind, false)] < 100 {
			t.Errorf("too few facts of kind %d: %v", kind, counts)
		}
	}
}

// TestReplayOfCut is of histories of which one row lacks, comes twice, or stands elsewhere: what Replay answers is what its facts do, one behind the other.
func TestReplayOfCut(t *testing.T) {
	counts := map[bool]int{}
	for round := range 20 {
		roll := dice(uint64(150 + round))
		w := begin(1)
		var history []facts.Fact
		for len(history) < 30 {
			if f := thrown(roll, w); w.apply(f) == nil {
				history = append(history, f)
			}
		}
		for i, f := range history {
			less := slices.Delete(slices.Clone(history), i, i+1)
			for _, list := range [][]facts.Fact{less, slices.Insert(slices.Clone(history), i, f), slices.Insert(slices.Clone(less), roll(len(less)+1), f)} {
				want, there := begin(1), true
				for _, f := range list {
					there = there && want.apply(f) == nil
				}
				s, err := store.Replay(1, rowsOf(t, list...))
				if there && (err != nil || told(s) != want.told()) || !there && (!is(err, api.ErrCheck) || s != nil) {
					t.Fatalf("Replay of\n%+v\nanswers %v, %v", list, s, err)
				}
				counts[there]++
			}
		}
	}
	if counts[true] < 200 || counts[false] < 200 {
		t.Errorf("too few of both: %v", counts)
	}
}
