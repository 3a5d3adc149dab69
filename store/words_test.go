package store_test

import (
	"fmt"
	"slices"
	"testing"

	"liaison/api"
	"liaison/facts"
	"liaison/moves"
	"liaison/store"
)

// The chapter's words, told anew: what the package answers is held against them.

// is tells whether an error is the very one that is wanted, nil too.
func is(err, want error) bool {
	if err == nil || want == nil {
		return err == nil && want == nil
	}
	return err == want
}

// dice answers numbers that are spread, the same ones each time.
func dice(seed uint64) func(below int) int {
	return func(below int) int {
		seed = seed*6364136223846793005 + 1442695040888963407
		return int(seed>>33) % below
	}
}

// place is where a seat stands: its state, and how it ended.
type place struct{ state, how int }

// reg is a registration, part a participant, act an activity, by its Opened.
type reg struct {
	node, part, protocol int
	place
}

type part struct {
	joined, placed facts.Fact // the second one without a kind, if it isn't placed
	place
}

type act struct {
	opened   facts.Fact
	decision int
	regs     []reg
}

// words is a store as the chapter's words tell it: its activities by their Seqs, in no order.
type words struct {
	node, next int
	acts       map[int]act
	parts      []part
}

func begin(node int) *words {
	return &words{node: node, acts: map[int]act{}}
}

// states is the states of a side of a protocol.
func states(protocol, side int) []int {
	list := []int{1, 2, 5, 6, 7, 8, 9, 11, 12, 13, 14}
	if protocol == api.CC {
		list = append(list, 4, 10)
	}
	if protocol == api.CC && side == api.Coordinator {
		list = append(list, 3)
	}
	return list
}

// may tells whether a seat may be turned to another place.
func may(protocol, side int, from, to place) bool {
	if from.state == 14 || !slices.Contains(states(protocol, side), to.state) {
		return false
	}
	if to.state == 14 {
		return slices.Contains([]int{1, 4, 5, 6, 7, 8}, to.how)
	}
	return to.how == 0
}

// fits tells whether a fact that is right does something.
func (w *words) fits(f facts.Fact) bool {
	a, there := w.acts[f.Act.Seq]
	there = there && f.Act.Node == w.node
	switch f.Kind {
	case 1:
		for _, other := range w.acts {
			if f.Parent != 0 && other.opened.Parent == f.Parent {
				return false
			}
		}
		return f.Act.Node == w.node && f.Act.Seq >= w.next && len(w.acts) < 8 && f.Parent <= len(w.parts)
	case 2:
		for _, r := range a.regs {
			if r.node == f.Node && r.part == f.Part {
				return false
			}
		}
		return there && len(a.regs) == f.Reg && a.decision == 0
	case 3:
		return there && f.Reg < len(a.regs) && may(a.regs[f.Reg].protocol, api.Coordinator, a.regs[f.Reg].place, place{f.State, f.How})
	case 4:
		return there && a.opened.Outcome == 1 && a.decision == 0
	case 5:
		for _, r := range a.regs {
			if r.state != 14 {
				return false
			}
		}
		return there
	case 6:
		return len(w.parts) == f.Part
	case 7:
		return f.Part < len(w.parts) && w.parts[f.Part].placed.Kind == 0
	}
	return f.Part < len(w.parts) && may(w.parts[f.Part].joined.Protocol, api.Participant, w.parts[f.Part].place, place{f.State, f.How})
}

// apply is what a fact does, and its error.
func (w *words) apply(f facts.Fact) error {
	if !f.Right() {
		return api.ErrForm
	}
	if !w.fits(f) {
		return api.ErrState
	}
	a := w.acts[f.Act.Seq]
	switch f.Kind {
	case 1:
		w.acts[f.Act.Seq] = act{opened: f}
		w.next = f.Act.Seq + 1
	case 2:
		a.regs = append(slices.Clone(a.regs), reg{f.Node, f.Part, f.Protocol, place{1, 0}})
		w.acts[f.Act.Seq] = a
	case 3:
		a.regs = slices.Clone(a.regs)
		a.regs[f.Reg].place = place{f.State, f.How}
		w.acts[f.Act.Seq] = a
	case 4:
		a.decision = f.Decision
		w.acts[f.Act.Seq] = a
	case 5:
		delete(w.acts, f.Act.Seq)
	case 6:
		w.parts = append(w.parts, part{joined: f, place: place{1, 0}})
	case 7:
		w.parts[f.Part].placed = f
	case 8:
		w.parts[f.Part].place = place{f.State, f.How}
	}
	return nil
}

// copied is the same words, apart.
func (w *words) copied() *words {
	other := &words{node: w.node, next: w.next, acts: map[int]act{}, parts: slices.Clone(w.parts)}
	for seq, a := range w.acts {
		other.acts[seq] = a
	}
	return other
}

// seqs is the Seqs of the activities, rising.
func (w *words) seqs() []int {
	var list []int
	for seq := range w.acts {
		list = append(list, seq)
	}
	slices.Sort(list)
	return list
}

// activity is what a store tells of an activity.
func (a act) activity() store.Activity {
	f := a.opened
	told := store.Activity{Context: api.Context{Act: f.Act, Outcome: f.Outcome, Depth: f.Depth, Expires: f.Expires}, Parent: f.Parent, Decision: a.decision}
	for _, r := range a.regs {
		told.Regs = append(told.Regs, store.Reg{Node: r.node, Part: r.part, Seat: moves.Seat{Protocol: r.protocol, Side: 1, State: r.state, How: r.how}})
	}
	return told
}

// part is what a store tells of a participant.
func (p part) part() store.Part {
	told := store.Part{Act: p.joined.Act, Reg: -1, Seat: moves.Seat{Protocol: p.joined.Protocol, Side: 2, State: p.state, How: p.how}}
	if p.placed.Kind != 0 {
		told.Reg = p.placed.Reg
	}
	return told
}

func (w *words) activities() []store.Activity {
	var list []store.Activity
	for _, seq := range w.seqs() {
		list = append(list, w.acts[seq].activity())
	}
	return list
}

func (w *words) participants() []store.Part {
	var list []store.Part
	for _, p := range w.parts {
		list = append(list, p.part())
	}
	return list
}

// facts is the least facts that make it.
func (w *words) facts() []facts.Fact {
	var list []facts.Fact
	for i, p := range w.parts {
		list = append(list, p.joined)
		if p.placed.Kind != 0 {
			list = append(list, p.placed)
		}
		if p.state != 1 {
			list = append(list, facts.Fact{Kind: 8, Part: i, State: p.state, How: p.how})
		}
	}
	for _, seq := range w.seqs() {
		a := w.acts[seq]
		var enrolled, seated []facts.Fact
		for i, r := range a.regs {
			enrolled = append(enrolled, facts.Fact{Kind: 2, Act: a.opened.Act, Reg: i, Node: r.node, Part: r.part, Protocol: r.protocol})
			if r.state != 1 {
				seated = append(seated, facts.Fact{Kind: 3, Act: a.opened.Act, Reg: i, State: r.state, How: r.how})
			}
		}
		list = slices.Concat(list, []facts.Fact{a.opened}, enrolled, seated)
		if a.decision > 0 {
			list = append(list, facts.Fact{Kind: 4, Act: a.opened.Act, Decision: a.decision})
		}
	}
	if _, there := w.acts[w.next-1]; w.next > 0 && !there {
		last := api.Act{Node: w.node, Seq: w.next - 1}
		list = append(list, facts.Fact{Kind: 1, Act: last, Outcome: 1}, facts.Fact{Kind: 5, Act: last})
	}
	return list
}

// told is all that the words know, as a text; a list of none and no list are the same.
func (w *words) told() string {
	return text(w.node, w.next, w.activities(), w.participants(), w.facts())
}

// told is all that a store tells, as a text.
func told(s *store.Store) string {
	return text(s.Node(), s.Next(), s.Activities(), s.Parts(), s.Facts())
}

func text(node, next int, activities []store.Activity, parts []store.Part, list []facts.Fact) string {
	return fmt.Sprintf("%d %d\n%+v\n%+v\n%+v", node, next, activities, parts, list)
}

// holds fails if a store doesn't answer what the words do.
func holds(t *testing.T, s *store.Store, w *words) {
	t.Helper()
	if got, want := told(s), w.told(); got != want {
		t.Fatalf("the store tells\n%s\nnot\n%s", got, want)
	}
}

// asked fails if a store doesn't answer Find, Part and Child as the words do.
func asked(t *testing.T, s *store.Store, w *words) {
	t.Helper()
	for _, node := range []int{w.node, (w.node + 1) % 4, -1} {
		for _, seq := range append(w.seqs(), -1, 0, 1, 2, w.next-1, w.next) {
			wanted, there := w.acts[seq]
			want := store.Activity{}
			if there = there && node == w.node; there {
				want = wanted.activity()
			}
			if got, ok := s.Find(api.Act{Node: node, Seq: seq}); ok != there || fmt.Sprintf("%+v", got) != fmt.Sprintf("%+v", want) {
				t.Fatalf("Find of %d, %d answers %+v, %v, not %+v, %v", node, seq, got, ok, want, there)
			}
		}
	}
	for i := -2; i < len(w.parts)+3; i++ {
		want, child, there := store.Part{}, store.Activity{}, false
		if i >= 0 && i < len(w.parts) {
			want = w.parts[i].part()
		}
		if got, ok := s.Part(i); got != want || ok != (i >= 0 && i < len(w.parts)) {
			t.Fatalf("Part of %d answers %+v, %v, not %+v", i, got, ok, want)
		}
		for _, a := range w.acts {
			if p := a.opened.Parent; p > 0 && p == i+1 {
				child, there = a.activity(), true
			}
		}
		if got, ok := s.Child(i); ok != there || fmt.Sprintf("%+v", got) != fmt.Sprintf("%+v", child) {
			t.Fatalf("Child of %d answers %+v, %v, not %+v, %v", i, got, ok, child, there)
		}
	}
}

// applies fails if a store and the words don't answer a fact alike; it answers whether the fact had no error.
func applies(t *testing.T, s *store.Store, w *words, f facts.Fact) bool {
	t.Helper()
	err, want := s.Apply(f), w.apply(f)
	if !is(err, want) {
		t.Fatalf("behind\n%s\nApply of %+v answers %v, not %v", w.told(), f, err, want)
	}
	return err == nil
}
