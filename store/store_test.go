package store_test

import (
	"bytes"
	"fmt"
	"math"
	"slices"
	"testing"

	"liaison/api"
	"liaison/facts"
	"liaison/moves"
	"liaison/store"
)

var (
	infinity  = math.Inf(1)
	minusZero = math.Copysign(0, -1)
)

// strange is numbers that are far from what there is, or right in fewer bits.
func strange() []int {
	return []int{-1, -2, 4, 5, 8, 9, 255, 256, 257, 1000000, 1 << 31, 1 << 32, 1<<32 + 1, math.MinInt32, -1 << 32, math.MaxInt - 1, math.MaxInt, math.MinInt, math.MinInt + 1}
}

// Facts of the node 1, by hand.

func own(seq int) api.Act {
	return api.Act{Node: 1, Seq: seq}
}

func opened(seq, outcome int) facts.Fact {
	return facts.Fact{Kind: facts.Opened, Act: own(seq), Outcome: outcome, Expires: 9}
}

func below(seq, parent int) facts.Fact {
	return facts.Fact{Kind: facts.Opened, Act: own(seq), Outcome: api.Atomic, Depth: 1, Expires: 5, Parent: parent}
}

func enrolled(seq, reg, node, part, protocol int) facts.Fact {
	return facts.Fact{Kind: facts.Enrolled, Act: own(seq), Reg: reg, Node: node, Part: part, Protocol: protocol}
}

func seated(seq, reg, state, how int) facts.Fact {
	return facts.Fact{Kind: facts.Seated, Act: own(seq), Reg: reg, State: state, How: how}
}

func decided(seq, decision int) facts.Fact {
	return facts.Fact{Kind: facts.Decided, Act: own(seq), Decision: decision}
}

func forgot(seq int) facts.Fact {
	return facts.Fact{Kind: facts.Forgot, Act: own(seq)}
}

func joined(part int, act api.Act, protocol int) facts.Fact {
	return facts.Fact{Kind: facts.Joined, Part: part, Act: act, Protocol: protocol}
}

func placed(part, reg int) facts.Fact {
	return facts.Fact{Kind: facts.Placed, Part: part, Reg: reg}
}

func turned(part, state, how int) facts.Fact {
	return facts.Fact{Kind: facts.Turned, Part: part, State: state, How: how}
}

// at is a fact of another node's activity.
func at(node int, f facts.Fact) facts.Fact {
	f.Act.Node = node
	return f
}

// made is a store of a node behind facts, none of which has an error.
func made(t *testing.T, node int, list ...facts.Fact) *store.Store {
	t.Helper()
	s, err := store.New(node)
	if err != nil {
		t.Fatal(err)
	}
	for _, f := range list {
		if err := s.Apply(f); err != nil {
			t.Fatalf("Apply of %+v answers %v", f, err)
		}
	}
	return s
}

// rowsOf is the rows of facts.
func rowsOf(t *testing.T, list ...facts.Fact) [][]byte {
	t.Helper()
	rows, err := facts.Rows(list...)
	if err != nil {
		t.Fatal(err)
	}
	return rows
}

// refuses fails if a store has another error for a fact than is wanted, or isn't as it was behind it.
func refuses(t *testing.T, what string, s *store.Store, f facts.Fact, want error) {
	t.Helper()
	was := told(s)
	if err := s.Apply(f); !is(err, want) {
		t.Errorf("%s: Apply of %+v answers %v, not %v", what, f, err, want)
	}
	if now := told(s); now != was {
		t.Errorf("%s: behind an error there is\n%s\nnot\n%s", what, now, was)
	}
}

// activities fails if a store's activities aren't these.
func activities(t *testing.T, s *store.Store, want ...store.Activity) {
	t.Helper()
	if got := s.Activities(); fmt.Sprintf("%+v", got) != fmt.Sprintf("%+v", want) {
		t.Errorf("the activities are %+v, not %+v", got, want)
	}
}

// parts fails if a store's participants aren't these.
func parts(t *testing.T, s *store.Store, want ...store.Part) {
	t.Helper()
	if got := s.Parts(); !slices.Equal(got, want) {
		t.Errorf("the participants are %+v, not %+v", got, want)
	}
}

// tells fails if a store's Facts aren't these.
func tells(t *testing.T, what string, s *store.Store, want ...facts.Fact) {
	t.Helper()
	if got := s.Facts(); !slices.Equal(got, want) {
		t.Errorf("%s: the facts are\n%+v\nnot\n%+v", what, got, want)
	}
}

func coordinator(protocol, state, how int) moves.Seat {
	return moves.Seat{Protocol: protocol, Side: api.Coordinator, State: state, How: how}
}

func participant(protocol, state, how int) moves.Seat {
	return moves.Seat{Protocol: protocol, Side: api.Participant, State: state, How: how}
}

func TestLimits(t *testing.T) {
	limits := []int{api.MaxNodes, api.MaxActs, api.MaxRegs, api.MaxParts, api.MaxSeq, api.PC, api.CC, api.Atomic, api.Mixed, api.Coordinator, api.Participant, api.Active, api.Completed, api.Ended}
	if want := []int{4, 8, 6, 8, 1000000, 1, 2, 1, 2, 1, 2, 1, 5, 14}; !slices.Equal(limits, want) {
		t.Fatalf("the tests are made for other limits and numbers than %v", limits)
	}
}

func TestNew(t *testing.T) {
	for node := range 4 {
		s, err := store.New(node)
		if err != nil {
			t.Fatal(err)
		}
		if s.Node() != node || s.Next() != 0 || len(s.Activities()) != 0 || len(s.Parts()) != 0 || len(s.Facts()) != 0 {
			t.Errorf("a new store tells %s", told(s))
		}
		asked(t, s, begin(node))
	}
	for _, node := range strange() {
		if s, err := store.New(node); !is(err, api.ErrRange) || s != nil {
			t.Errorf("New(%d) answers %v, %v", node, s, err)
		}
	}
}

// TestExample is of the chapter's example, at node 1.
func TestExample(t *testing.T) {
	s := made(t, 1, opened(0, api.Atomic), enrolled(0, 0, 2, 3, api.PC), seated(0, 0, api.Completed, 0))
	a, there := s.Find(own(0))
	if !there || len(a.Regs) != 1 || a.Regs[0].Seat.State != api.Completed {
		t.Errorf("Find answers %+v, %v", a, there)
	}
}

func TestOpened(t *testing.T) {
	s := made(t, 1, opened(0, api.Atomic))
	first := store.Activity{Context: api.Context{Act: own(0), Outcome: api.Atomic, Expires: 9}}
	activities(t, s, first)
	if s.Next() != 1 {
		t.Errorf("Next is %d, not 1", s.Next())
	}
	if err := s.Apply(facts.Fact{Kind: facts.Opened, Act: own(7), Outcome: api.Mixed, Depth: 3, Expires: infinity}); err != nil {
		t.Fatal(err)
	}
	second := store.Activity{Context: api.Context{Act: own(7), Outcome: api.Mixed, Depth: 3, Expires: infinity}}
	activities(t, s, first, second)
	if s.Next() != 8 {
		t.Errorf("Next is %d, not 8", s.Next())
	}
	for _, seq := range []int{0, 1, 6, 7} {
		refuses(t, "a Seq below Next", s, opened(seq, api.Atomic), api.ErrState)
	}
	for _, node := range []int{0, 2, 3} {
		refuses(t, "another node", s, at(node, opened(8, api.Atomic)), api.ErrState)
	}
	parts(t, s)
}

// TestOpenedBehindForgot is of activities that are gone: their Seqs aren't had again, their place is.
func TestOpenedBehindForgot(t *testing.T) {
	s := made(t, 1, opened(3, api.Atomic), forgot(3))
	activities(t, s)
	if s.Next() != 4 {
		t.Errorf("Next is %d, not 4", s.Next())
	}
	refuses(t, "a Seq that is gone", s, opened(3, api.Atomic), api.ErrState)
	refuses(t, "a Seq below it", s, opened(0, api.Mixed), api.ErrState)
	if err := s.Apply(opened(4, api.Mixed)); err != nil || s.Next() != 5 {
		t.Errorf("Apply answers %v, Next is %d", err, s.Next())
	}
}

func TestMaxActs(t *testing.T) {
	s := made(t, 1)
	for seq := range 8 {
		if err := s.Apply(opened(seq, api.Atomic)); err != nil {
			t.Fatalf("the activity %d: %v", seq, err)
		}
	}
	refuses(t, "a ninth activity", s, opened(8, api.Atomic), api.ErrState)
	refuses(t, "a ninth activity, far on", s, opened(99, api.Atomic), api.ErrState)
	if err := s.Apply(forgot(5)); err != nil {
		t.Fatal(err)
	}
	if err := s.Apply(opened(8, api.Atomic)); err != nil {
		t.Errorf("where one is gone: %v", err)
	}
	refuses(t, "a ninth activity again", s, opened(9, api.Atomic), api.ErrState)
	var seqs []int
	for _, a := range s.Activities() {
		seqs = append(seqs, a.Context.Act.Seq)
	}
	if want := []int{0, 1, 2, 3, 4, 6, 7, 8}; !slices.Equal(seqs, want) {
		t.Errorf("the activities are %v, not %v", seqs, want)
	}
}

// TestMaxSeq is of the last Seq that there is.
func TestMaxSeq(t *testing.T) {
	s := made(t, 1, opened(999998, api.Atomic), opened(999999, api.Mixed))
	if s.Next() != 1000000 {
		t.Errorf("Next is %d", s.Next())
	}
	refuses(t, "the last Seq again", s, opened(999999, api.Mixed), api.ErrState)
	refuses(t, "no Seq", s, opened(1000000, api.Mixed), api.ErrForm)
	tells(t, "the last Seq", s, opened(999998, api.Atomic), opened(999999, api.Mixed))
	if err := s.Apply(forgot(999999)); err != nil {
		t.Fatal(err)
	}
	gone := facts.Fact{Kind: facts.Opened, Act: own(999999), Outcome: api.Atomic}
	tells(t, "the last Seq, gone", s, opened(999998, api.Atomic), gone, forgot(999999))
	refuses(t, "the last Seq, gone", s, opened(999999, api.Mixed), api.ErrState)
}

func TestParents(t *testing.T) {
	s := made(t, 1)
	for parent := 1; parent <= 8; parent++ {
		refuses(t, "no participants", s, below(0, parent), api.ErrState)
	}
	for _, f := range []facts.Fact{joined(0, own(0), api.PC), joined(1, at(2, opened(5, 1)).Act, api.CC)} {
		if err := s.Apply(f); err != nil {
			t.Fatal(err)
		}
	}
	for parent := 3; parent <= 8; parent++ {
		refuses(t, "no such participant", s, below(0, parent), api.ErrState)
	}
	if err := s.Apply(below(0, 2)); err != nil {
		t.Fatal(err)
	}
	refuses(t, "a participant that has one", s, below(1, 2), api.ErrState)
	if err := s.Apply(below(1, 1)); err != nil {
		t.Fatal(err)
	}
	for i, want := range []int{1, 0} {
		if a, there := s.Child(i); !there || a.Context.Act != own(want) || a.Parent != i+1 || a.Context.Depth != 1 || a.Context.Expires != 5 {
			t.Errorf("Child of %d answers %+v, %v", i, a, there)
		}
	}
	refuses(t, "a participant that has one, of two", s, below(2, 1), api.ErrState)
	if err := s.Apply(opened(2, api.Atomic)); err != nil {
		t.Errorf("below nobody: %v", err)
	}
	if err := s.Apply(opened(3, api.Atomic)); err != nil {
		t.Errorf("below nobody, once more: %v", err)
	}
	if err := s.Apply(forgot(0)); err != nil {
		t.Fatal(err)
	}
	if a, there := s.Child(1); there || a.Parent != 0 {
		t.Errorf("Child of what has none any more answers %+v", a)
	}
	if err := s.Apply(below(4, 2)); err != nil {
		t.Errorf("below one that has none any more: %v", err)
	}
}

// TestParentsAsked is of participants as they may be: any that is there may have an activity below it.
func TestParentsAsked(t *testing.T) {
	for _, history := range [][]facts.Fact{
		{joined(0, own(0), api.PC)},
		{joined(0, own(0), api.PC), placed(0, 3)},
		{joined(0, own(0), api.CC), placed(0, 3), turned(0, api.Completed, 0)},
		{joined(0, own(0), api.CC), turned(0, api.Ended, api.Exit)},
	} {
		s := made(t, 1, append(history, below(0, 1))...)
		if a, there := s.Child(0); !there || a.Parent != 1 {
			t.Errorf("Child answers %+v, %v", a, there)
		}
	}
}

// TestMaxParents is of all participants with an activity below each, which are all activities.
func TestMaxParents(t *testing.T) {
	s := made(t, 1)
	for i := range 8 {
		if err := s.Apply(joined(i, own(i), api.PC)); err != nil {
			t.Fatal(err)
		}
	}
	for i := range 8 {
		if err := s.Apply(below(i, 8-i)); err != nil {
			t.Fatal(err)
		}
	}
	for i := range 8 {
		if a, there := s.Child(i); !there || a.Context.Act != own(7-i) {
			t.Errorf("Child of %d answers %+v, %v", i, a, there)
		}
	}
	for _, i := range append(strange()[:2], strange()[4:]...) {
		if a, there := s.Child(i); there || a.Parent != 0 || a.Context != (api.Context{}) {
			t.Errorf("Child of %d answers %+v, %v", i, a, there)
		}
	}
}

func TestEnrolled(t *testing.T) {
	s := made(t, 1, opened(2, api.Atomic), opened(4, api.Mixed))
	for _, f := range []facts.Fact{enrolled(0, 0, 0, 0, 1), enrolled(1, 0, 0, 0, 1), enrolled(3, 0, 0, 0, 1), enrolled(5, 0, 0, 0, 1), at(0, enrolled(2, 0, 0, 0, 1)), at(2, enrolled(4, 0, 0, 0, 1))} {
		refuses(t, "no such activity", s, f, api.ErrState)
	}
	refuses(t, "a second one ahead of the first", s, enrolled(2, 1, 0, 0, 1), api.ErrState)
	for _, f := range []facts.Fact{enrolled(2, 0, 3, 7, api.CC), enrolled(2, 1, 0, 7, api.PC), enrolled(2, 2, 3, 0, api.PC), enrolled(4, 0, 3, 7, api.PC)} {
		if err := s.Apply(f); err != nil {
			t.Fatalf("Apply of %+v answers %v", f, err)
		}
	}
	for _, reg := range []int{0, 1, 2, 4, 5} {
		refuses(t, "not the number of registrations", s, enrolled(2, reg, 2, 2, api.PC), api.ErrState)
	}
	for _, protocol := range []int{api.PC, api.CC} {
		refuses(t, "registered already", s, enrolled(2, 3, 3, 7, protocol), api.ErrState)
		refuses(t, "registered already, as the second", s, enrolled(2, 3, 0, 7, protocol), api.ErrState)
		refuses(t, "registered already, as the third", s, enrolled(2, 3, 3, 0, protocol), api.ErrState)
	}
	activities(t, s,
		store.Activity{Context: api.Context{Act: own(2), Outcome: api.Atomic, Expires: 9}, Regs: []store.Reg{
			{Node: 3, Part: 7, Seat: coordinator(api.CC, api.Active, 0)}, {Node: 0, Part: 7, Seat: coordinator(api.PC, api.Active, 0)}, {Node: 3, Part: 0, Seat: coordinator(api.PC, api.Active, 0)},
		}},
		store.Activity{Context: api.Context{Act: own(4), Outcome: api.Mixed, Expires: 9}, Regs: []store.Reg{{Node: 3, Part: 7, Seat: coordinator(api.PC, api.Active, 0)}}},
	)
}

// TestEnrolledOfDecided is of registrations behind a decision; those of others go on, and so do those that have ended.
func TestEnrolledOfDecided(t *testing.T) {
	for decision := 1; decision <= 2; decision++ {
		s := made(t, 1, opened(0, api.Atomic), opened(1, api.Atomic), enrolled(0, 0, 0, 0, api.PC), decided(0, decision))
		refuses(t, "decided", s, enrolled(0, 1, 0, 1, api.PC), api.ErrState)
		if err := s.Apply(enrolled(1, 0, 0, 0, api.PC)); err != nil {
			t.Errorf("of another activity: %v", err)
		}
	}
	s := made(t, 1, opened(0, api.Atomic), enrolled(0, 0, 0, 0, api.PC), seated(0, 0, api.Ended, api.Exit), enrolled(0, 1, 0, 1, api.PC))
	refuses(t, "one that has ended", s, enrolled(0, 2, 0, 0, api.PC), api.ErrState)
}

func TestMaxRegs(t *testing.T) {
	s := made(t, 1, opened(0, api.Mixed))
	for reg := range 6 {
		if err := s.Apply(enrolled(0, reg, reg%4, reg, api.PC)); err != nil {
			t.Fatal(err)
		}
	}
	for reg := range 6 {
		refuses(t, "one behind the last", s, enrolled(0, reg, 0, 7, api.PC), api.ErrState)
	}
	refuses(t, "a seventh", s, enrolled(0, 6, 0, 7, api.PC), api.ErrForm)
	if a, _ := s.Find(own(0)); len(a.Regs) != 6 {
		t.Errorf("there are %d registrations", len(a.Regs))
	}
}

// allPlaces is all states and kinds of ending of right facts.
func allPlaces() []place {
	var list []place
	for state := 1; state <= 13; state++ {
		list = append(list, place{state, 0})
	}
	for _, how := range []int{1, 4, 5, 6, 7, 8} {
		list = append(list, place{14, how})
	}
	return list
}

// TestSeats turns seats of both sides and protocols from each place to each.
func TestSeats(t *testing.T) {
	count := 0
	for _, protocol := range []int{api.PC, api.CC} {
		for _, side := range []int{api.Coordinator, api.Participant} {
			fact := func(p place) facts.Fact { return seated(3, 1, p.state, p.how) }
			history := []facts.Fact{opened(3, api.Mixed), enrolled(3, 0, 0, 0, 3-protocol), enrolled(3, 1, 0, 1, protocol), seated(3, 0, api.Exiting, 0)}
			seat := func(s *store.Store) moves.Seat { return s.Activities()[0].Regs[1].Seat }
			if side == api.Participant {
				fact = func(p place) facts.Fact { return turned(1, p.state, p.how) }
				history = []facts.Fact{joined(0, own(9), 3-protocol), joined(1, own(9), protocol), turned(0, api.Exiting, 0)}
				seat = func(s *store.Store) moves.Seat { return s.Parts()[1].Seat }
			}
			for _, from := range allPlaces() {
				if !may(protocol, side, place{1, 0}, from) {
					refuses(t, "not one of the side's", made(t, 1, history...), fact(from), api.ErrState)
					continue
				}
				for _, to := range allPlaces() {
					s := made(t, 1, append(history, fact(from))...)
					if !may(protocol, side, from, to) {
						refuses(t, "a seat", s, fact(to), api.ErrState)
						continue
					}
					if err := s.Apply(fact(to)); err != nil {
						t.Errorf("from %v to %v: %v", from, to, err)
					}
					if got, want := seat(s), (moves.Seat{Protocol: protocol, Side: side, State: to.state, How: to.how}); got != want {
						t.Errorf("from %v to %v comes %+v, not %+v", from, to, got, want)
					}
					count++
				}
			}
		}
	}
	if count != 10*16+10*16+13*19+12*18 {
		t.Errorf("just %d turns had no error", count)
	}
}

func TestSeatedNowhere(t *testing.T) {
	s := made(t, 1, opened(1, api.Atomic), enrolled(1, 0, 0, 0, api.PC), opened(2, api.Atomic), enrolled(2, 0, 0, 0, api.CC), enrolled(2, 1, 0, 1, api.PC))
	for _, f := range []facts.Fact{
		seated(0, 0, api.Completed, 0), seated(3, 0, api.Completed, 0), at(0, seated(1, 0, api.Completed, 0)), at(3, seated(2, 1, api.Completed, 0)),
		seated(1, 1, api.Completed, 0), seated(1, 5, api.Completed, 0), seated(2, 2, api.Completed, 0), seated(1, 0, api.Completing, 0), seated(2, 1, api.Completing, 0),
	} {
		refuses(t, "no such registration", s, f, api.ErrState)
	}
	if err := s.Apply(seated(2, 0, api.Completing, 0)); err != nil {
		t.Errorf("of CC: %v", err)
	}
	if a, _ := s.Find(own(2)); a.Regs[0].Seat != coordinator(api.CC, api.Completing, 0) || a.Regs[1].Seat != coordinator(api.PC, api.Active, 0) {
		t.Errorf("the registrations are %+v", a.Regs)
	}
	if a, _ := s.Find(own(1)); a.Regs[0].Seat != coordinator(api.PC, api.Active, 0) {
		t.Errorf("the registrations are %+v", a.Regs)
	}
}

// TestSeatedOfDecided is of seats behind a decision.
func TestSeatedOfDecided(t *testing.T) {
	s := made(t, 1, opened(0, api.Atomic), enrolled(0, 0, 0, 0, api.PC), seated(0, 0, api.Completed, 0), decided(0, 1), seated(0, 0, api.Closing, 0), seated(0, 0, api.Ended, api.Closed))
	a, _ := s.Find(own(0))
	if a.Decision != 1 || a.Regs[0].Seat != coordinator(api.PC, api.Ended, api.Closed) {
		t.Errorf("Find answers %+v", a)
	}
}

func TestDecided(t *testing.T) {
	for decision := 1; decision <= 2; decision++ {
		s := made(t, 1, opened(1, api.Atomic), opened(2, api.Mixed), opened(5, api.Atomic))
		for _, f := range []facts.Fact{decided(0, decision), decided(3, decision), decided(6, decision), at(0, decided(1, decision)), at(2, decided(5, decision))} {
			refuses(t, "no such activity", s, f, api.ErrState)
		}
		refuses(t, "a Mixed one", s, decided(2, decision), api.ErrState)
		if err := s.Apply(decided(5, decision)); err != nil {
			t.Fatal(err)
		}
		for again := 1; again <= 2; again++ {
			refuses(t, "decided already", s, decided(5, again), api.ErrState)
		}
		for seq, want := range map[int]int{1: 0, 2: 0, 5: decision} {
			if a, _ := s.Find(own(seq)); a.Decision != want {
				t.Errorf("the Decision of %d is %d, not %d", seq, a.Decision, want)
			}
		}
		// A store asks not whether all are ready: any Atomic activity may close.
		made(t, 1, opened(1, api.Atomic), enrolled(1, 0, 0, 0, api.PC), decided(1, decision))
	}
}

func TestForgot(t *testing.T) {
	history := []facts.Fact{opened(1, api.Atomic), opened(2, api.Mixed), enrolled(2, 0, 0, 0, api.PC), enrolled(2, 1, 0, 1, api.PC), opened(5, api.Atomic), enrolled(5, 0, 0, 0, api.PC)}
	s := made(t, 1, history...)
	for _, f := range []facts.Fact{forgot(0), forgot(3), forgot(6), at(0, forgot(1)), at(2, forgot(1))} {
		refuses(t, "no such activity", s, f, api.ErrState)
	}
	for reg := range 2 {
		refuses(t, "none has ended", s, forgot(2), api.ErrState)
		s = made(t, 1, append(history, seated(2, reg, api.Ended, api.Exit))...)
		refuses(t, "one has ended", s, forgot(2), api.ErrState)
		if err := s.Apply(seated(2, 1-reg, api.Exiting, 0)); err != nil {
			t.Fatal(err)
		}
		refuses(t, "one has ended, the other nearly", s, forgot(2), api.ErrState)
		if err := s.Apply(seated(2, 1-reg, api.Ended, api.Closed)); err != nil {
			t.Fatal(err)
		}
		if err := s.Apply(forgot(2)); err != nil {
			t.Fatalf("all have ended: %v", err)
		}
		refuses(t, "it is gone", s, forgot(2), api.ErrState)
		refuses(t, "it is gone", s, enrolled(2, 2, 3, 3, api.PC), api.ErrState)
		refuses(t, "it is gone", s, seated(2, 0, api.Completed, 0), api.ErrState)
		if a, there := s.Find(own(2)); there || a.Regs != nil || a.Context != (api.Context{}) {
			t.Errorf("Find of what is gone answers %+v, %v", a, there)
		}
		tells(t, "one is gone", s, opened(1, api.Atomic), opened(5, api.Atomic), enrolled(5, 0, 0, 0, api.PC))
		if s.Next() != 6 {
			t.Errorf("Next is %d", s.Next())
		}
		s = made(t, 1, history...)
	}
	if err := s.Apply(forgot(1)); err != nil {
		t.Errorf("one without registrations: %v", err)
	}
	// A store asks not for a decision.
	made(t, 1, append(history, seated(5, 0, api.Ended, api.Compensated), forgot(5))...)
}

func TestJoined(t *testing.T) {
	s := made(t, 1)
	for number := 1; number < 8; number++ {
		refuses(t, "not the number of participants", s, joined(number, own(0), api.PC), api.ErrState)
	}
	var want []store.Part
	for i := range 8 {
		// Of any activity, of the same one too, there or not, of this node or another one.
		f := joined(i, api.Act{Node: i / 2, Seq: i / 3 * 499999}, 1+i%2)
		if err := s.Apply(f); err != nil {
			t.Fatal(err)
		}
		want = append(want, store.Part{Act: f.Act, Reg: -1, Seat: participant(1+i%2, api.Active, 0)})
		parts(t, s, want...)
		for number := range 8 {
			if number != i+1 {
				refuses(t, "not the number of participants", s, joined(number, own(0), api.PC), api.ErrState)
			}
		}
	}
	refuses(t, "a ninth", s, joined(8, own(0), api.PC), api.ErrForm)
	for i := range 8 {
		if p, there := s.Part(i); !there || p != want[i] {
			t.Errorf("Part of %d answers %+v, %v", i, p, there)
		}
	}
	for _, i := range append(strange()[:2], strange()[4:]...) {
		if p, there := s.Part(i); there || p != (store.Part{}) {
			t.Errorf("Part of %d answers %+v, %v", i, p, there)
		}
	}
	activities(t, s)
}

func TestPlaced(t *testing.T) {
	for reg := range 6 {
		s := made(t, 1, joined(0, own(3), api.PC), joined(1, own(3), api.CC), joined(2, own(4), api.CC))
		for _, number := range []int{3, 4, 7} {
			refuses(t, "no such participant", s, placed(number, reg), api.ErrState)
		}
		if err := s.Apply(placed(1, reg)); err != nil {
			t.Fatal(err)
		}
		for again := range 6 {
			refuses(t, "placed already", s, placed(1, again), api.ErrState)
		}
		parts(t, s, store.Part{Act: own(3), Reg: -1, Seat: participant(api.PC, 1, 0)}, store.Part{Act: own(3), Reg: reg, Seat: participant(api.CC, 1, 0)}, store.Part{Act: own(4), Reg: -1, Seat: participant(api.CC, 1, 0)})
		// Others may be placed so too, and also when they have ended.
		if err := s.Apply(placed(2, reg)); err != nil {
			t.Error(err)
		}
		if err := s.Apply(turned(0, api.Ended, api.Exit)); err != nil {
			t.Error(err)
		}
		if err := s.Apply(placed(0, reg)); err != nil {
			t.Error(err)
		}
	}
	refuses(t, "nobody", made(t, 1), placed(0, 0), api.ErrState)
}

func TestTurnedNowhere(t *testing.T) {
	s := made(t, 1, joined(0, own(0), api.PC), joined(1, own(0), api.CC))
	for _, f := range []facts.Fact{turned(2, api.Completed, 0), turned(7, api.Active, 0), turned(0, api.Completing, 0), turned(1, api.CancelingCompleting, 0)} {
		refuses(t, "no such participant, or seat", s, f, api.ErrState)
	}
	if err := s.Apply(turned(1, api.Completing, 0)); err != nil {
		t.Fatal(err)
	}
	parts(t, s, store.Part{Act: own(0), Reg: -1, Seat: participant(api.PC, 1, 0)}, store.Part{Act: own(0), Reg: -1, Seat: participant(api.CC, api.Completing, 0)})
	refuses(t, "nobody", made(t, 1), turned(0, api.Active, 0), api.ErrState)
}

// TestErrForm is of facts that aren't right, in a store that they would fit or not: ErrForm goes ahead of ErrState.
func TestErrForm(t *testing.T) {
	history := []facts.Fact{joined(0, own(0), api.CC), opened(0, api.Atomic), enrolled(0, 0, 0, 0, api.CC), opened(1, api.Atomic)}
	s := made(t, 1, history...)
	for _, f := range []facts.Fact{
		opened(2, api.Mixed), below(2, 1), enrolled(0, 1, 0, 1, api.PC), seated(0, 0, api.Completed, 0), decided(0, 1), forgot(1), joined(1, own(0), api.PC), placed(0, 0), turned(0, api.Completed, 0),
		opened(0, api.Mixed), below(2, 2), enrolled(0, 0, 0, 1, api.PC), seated(0, 1, api.Completed, 0), decided(9, 1), forgot(0), joined(0, own(0), api.PC), placed(1, 0), turned(1, api.Completed, 0),
	} {
		for _, wrong := range wrongOnes(f) {
			if wrong.Right() {
				t.Fatalf("%+v is right", wrong)
			}
			refuses(t, "wrong", s, wrong, api.ErrForm)
		}
	}
	refuses(t, "the zero fact", s, facts.Fact{}, api.ErrForm)
	for _, kind := range strange() {
		if kind != 4 && kind != 5 && kind != 8 {
			refuses(t, "no kind", s, facts.Fact{Kind: kind}, api.ErrForm)
			refuses(t, "no kind, with all fields", s, facts.Fact{Kind: kind, Act: own(2), Protocol: 1, Outcome: 1, State: 1, Decision: 1}, api.ErrForm)
		}
	}
}

// wrongOnes is a fact made wrong by one field.
func wrongOnes(f facts.Fact) []facts.Fact {
	var list []facts.Fact
	for field := range 13 {
		for _, n := range []int{-1, 15, 1000000, math.MinInt, math.MaxInt} {
			wrong := f
			*[]*int{&wrong.Kind, &wrong.Act.Node, &wrong.Act.Seq, &wrong.Reg, &wrong.Node, &wrong.Part, &wrong.Protocol, &wrong.Outcome, &wrong.Depth, &wrong.Parent, &wrong.State, &wrong.How, &wrong.Decision}[field] = n
			if field == 2 && n == 15 {
				wrong.Act.Node = 4 // a Seq of 15 is one
			}
			list = append(list, wrong)
		}
	}
	for _, expires := range []float64{minusZero, -1, math.NaN(), math.Inf(-1)} {
		wrong := f
		wrong.Expires = expires
		list = append(list, wrong)
	}
	return list
}

// TestFacts is of stores behind facts, and the least facts that make these.
func TestFacts(t *testing.T) {
	gone := func(seq int) []facts.Fact {
		return []facts.Fact{{Kind: facts.Opened, Act: own(seq), Outcome: api.Atomic}, forgot(seq)}
	}
	deep := facts.Fact{Kind: facts.Opened, Act: own(3), Outcome: api.Mixed, Depth: 3, Expires: infinity}
	for _, c := range []struct {
		what string
		list []facts.Fact
		want []facts.Fact
	}{
		{"nothing", nil, nil},
		{"an activity", []facts.Fact{opened(0, api.Mixed)}, []facts.Fact{opened(0, api.Mixed)}},
		{"all of a context", []facts.Fact{deep}, []facts.Fact{deep}},
		{"one that is gone", []facts.Fact{opened(0, api.Mixed), forgot(0)}, gone(0)},
		{"one that is gone, of many fields", []facts.Fact{deep, forgot(3)}, gone(3)},
		{"one below that is gone", []facts.Fact{joined(0, own(0), api.PC), below(3, 1), forgot(3)}, append([]facts.Fact{joined(0, own(0), api.PC)}, gone(3)...)},
		{"one that is decided, and gone", []facts.Fact{opened(7, api.Atomic), enrolled(7, 0, 0, 0, api.PC), seated(7, 0, api.Ended, api.Canceled), decided(7, 2), forgot(7)}, gone(7)},
		{"two that are gone", []facts.Fact{opened(1, api.Mixed), opened(4, api.Mixed), forgot(4), forgot(1)}, gone(4)},
		{"the first one gone", []facts.Fact{opened(1, api.Mixed), opened(4, api.Mixed), forgot(1)}, []facts.Fact{opened(4, api.Mixed)}},
		{"the last one gone", []facts.Fact{opened(1, api.Mixed), opened(4, api.Mixed), forgot(4)}, append([]facts.Fact{opened(1, api.Mixed)}, gone(4)...)},
		{"the one in the middle gone", []facts.Fact{opened(1, api.Mixed), opened(2, api.Mixed), opened(3, api.Atomic), forgot(2)}, []facts.Fact{opened(1, api.Mixed), opened(3, api.Atomic)}},
		{"one behind those that are gone", []facts.Fact{opened(1, api.Mixed), forgot(1), opened(2, api.Mixed)}, []facts.Fact{opened(2, api.Mixed)}},
		{"participants", []facts.Fact{joined(0, own(0), api.PC), joined(1, own(0), api.CC)}, []facts.Fact{joined(0, own(0), api.PC), joined(1, own(0), api.CC)}},
		{
			"participants, placed and turned in another order",
			[]facts.Fact{joined(0, own(0), api.PC), turned(0, api.Completed, 0), joined(1, own(8), api.CC), turned(1, api.Completing, 0), placed(1, 5), joined(2, own(0), api.PC), placed(0, 0), turned(0, api.Closing, 0)},
			[]facts.Fact{joined(0, own(0), api.PC), placed(0, 0), turned(0, api.Closing, 0), joined(1, own(8), api.CC), placed(1, 5), turned(1, api.Completing, 0), joined(2, own(0), api.PC)},
		},
		{"one that isn't placed, and has ended", []facts.Fact{joined(0, own(0), api.PC), turned(0, api.Ended, api.Exit)}, []facts.Fact{joined(0, own(0), api.PC), turned(0, api.Ended, api.Exit)}},
		{"one that is Active again", []facts.Fact{joined(0, own(0), api.PC), turned(0, api.Completed, 0), turned(0, api.Active, 0)}, []facts.Fact{joined(0, own(0), api.PC)}},
		{
			"an activity with all",
			[]facts.Fact{opened(0, api.Atomic), enrolled(0, 0, 3, 1, api.CC), seated(0, 0, api.Completing, 0), enrolled(0, 1, 0, 1, api.PC), enrolled(0, 2, 0, 7, api.PC), seated(0, 2, api.Ended, api.Exit), seated(0, 0, api.Completed, 0), decided(0, 1), seated(0, 0, api.Closing, 0)},
			[]facts.Fact{opened(0, api.Atomic), enrolled(0, 0, 3, 1, api.CC), enrolled(0, 1, 0, 1, api.PC), enrolled(0, 2, 0, 7, api.PC), seated(0, 0, api.Closing, 0), seated(0, 2, api.Ended, api.Exit), decided(0, 1)},
		},
		{
			"a registration that is Active again",
			[]facts.Fact{opened(0, api.Mixed), enrolled(0, 0, 3, 1, api.CC), seated(0, 0, api.Completing, 0), seated(0, 0, api.Active, 0)},
			[]facts.Fact{opened(0, api.Mixed), enrolled(0, 0, 3, 1, api.CC)},
		},
		{"a decision of nobody", []facts.Fact{opened(0, api.Atomic), decided(0, 2)}, []facts.Fact{opened(0, api.Atomic), decided(0, 2)}},
		{
			"activities ahead of participants",
			[]facts.Fact{opened(0, api.Atomic), joined(0, own(0), api.PC), opened(1, api.Atomic), enrolled(0, 0, 1, 0, api.PC), below(2, 1), placed(0, 0), forgot(1)},
			[]facts.Fact{joined(0, own(0), api.PC), placed(0, 0), opened(0, api.Atomic), enrolled(0, 0, 1, 0, api.PC), below(2, 1)},
		},
		{
			"the activity last opened gone, behind all",
			[]facts.Fact{joined(0, own(0), api.PC), opened(0, api.Atomic), below(1, 1), enrolled(1, 0, 2, 2, api.CC), opened(5, api.Mixed), forgot(5), decided(1, 2)},
			append([]facts.Fact{joined(0, own(0), api.PC), opened(0, api.Atomic), below(1, 1), enrolled(1, 0, 2, 2, api.CC), decided(1, 2)}, gone(5)...),
		},
	} {
		s := made(t, 1, c.list...)
		tells(t, c.what, s, c.want...)
		again := made(t, 1, s.Facts()...)
		if told(again) != told(s) || !store.Same(again, s) || !store.Same(s, again) {
			t.Errorf("%s: its facts make\n%s\nnot\n%s", c.what, told(again), told(s))
		}
	}
}

// TestFactsOfNodes is of the node of what is gone.
func TestFactsOfNodes(t *testing.T) {
	for node := range 4 {
		s := made(t, node, at(node, opened(6, api.Mixed)), at(node, forgot(6)))
		last := api.Act{Node: node, Seq: 6}
		tells(t, "what is gone", s, facts.Fact{Kind: facts.Opened, Act: last, Outcome: api.Atomic}, facts.Fact{Kind: facts.Forgot, Act: last})
	}
}

// full is the facts of a store that has all that there is room for, none of it as it began.
func full() []facts.Fact {
	var list []facts.Fact
	for i := range 8 {
		list = append(list, joined(i, own(i), 1+i%2), placed(i, i%6), turned(i, api.Completed, 0))
	}
	for seq := range 8 {
		list = append(list, below(seq*100, seq+1))
		for reg := range 6 {
			list = append(list, enrolled(seq*100, reg, reg%4, 7-reg, 1+reg%2))
		}
		for reg := range 6 {
			list = append(list, seated(seq*100, reg, api.Ended, api.Closed))
		}
		list = append(list, decided(seq*100, 1))
	}
	return list
}

func TestFull(t *testing.T) {
	s := made(t, 1, full()...)
	tells(t, "full", s, full()...)
	w := begin(1)
	for _, f := range full() {
		if err := w.apply(f); err != nil {
			t.Fatal(err)
		}
	}
	holds(t, s, w)
	asked(t, s, w)
	again, err := store.Replay(1, rowsOf(t, full()...))
	if err != nil || told(again) != told(s) || !store.Same(again, s) {
		t.Errorf("Replay answers %v", err)
	}
	for seq := range 8 {
		if err := s.Apply(forgot(seq * 100)); err != nil {
			t.Error(err)
		}
	}
	activities(t, s)
}

func TestReplay(t *testing.T) {
	list := []facts.Fact{joined(0, own(0), api.PC), opened(0, api.Atomic), enrolled(0, 0, 0, 0, api.PC), seated(0, 0, api.Ended, api.Exit), forgot(0), opened(3, api.Mixed)}
	for many := range len(list) + 1 {
		rows := rowsOf(t, list[:many]...)
		was := rowsOf(t, list[:many]...)
		s, err := store.Replay(1, rows)
		if err != nil || told(s) != told(made(t, 1, list[:many]...)) {
			t.Errorf("Replay of %d answers %v", many, err)
		}
		if !slices.EqualFunc(rows, was, bytes.Equal) {
			t.Errorf("Replay changes its rows")
		}
	}
	for _, rows := range [][][]byte{nil, {}} {
		for node := range 4 {
			s, err := store.Replay(node, rows)
			if err != nil || told(s) != told(made(t, node)) {
				t.Errorf("Replay of no rows answers %v", err)
			}
		}
	}
}

func TestReplayOfWrong(t *testing.T) {
	right := rowsOf(t, opened(0, api.Atomic), enrolled(0, 0, 0, 0, api.PC))
	wrong := map[string][]byte{"none": nil, "empty": {}, "half a head": {1, 0}, "no kind": {1, 0, 1, 9}, "strange": {9, 9, 9}, "many zeros": make([]byte, 1000), "one byte more": append(slices.Clone(right[0]), 0)}
	for what, f := range map[string]facts.Fact{"opened again": opened(0, api.Atomic), "another node's": at(2, opened(1, api.Atomic)), "nowhere": enrolled(9, 0, 0, 0, api.PC), "not over": forgot(0), "no participant": turned(0, api.Completed, 0)} {
		wrong[what] = rowsOf(t, f)[0]
	}
	for what, row := range wrong {
		for _, rows := range [][][]byte{slices.Concat(right, [][]byte{row}), slices.Concat(right, [][]byte{row}, rowsOf(t, opened(5, api.Mixed)))} {
			if s, err := store.Replay(1, rows); !is(err, api.ErrCheck) || s != nil {
				t.Errorf("%s: Replay answers %v, %v", what, s, err)
			}
		}
	}
	// What fits behind others doesn't ahead of them.
	for _, rows := range [][][]byte{{right[1]}, {right[1], right[0]}, {nil}, {{}, right[0]}} {
		if s, err := store.Replay(1, rows); !is(err, api.ErrCheck) || s != nil {
			t.Errorf("Replay of %x answers %v, %v", rows, s, err)
		}
	}
	for node := range 4 {
		if s, err := store.Replay(node, right); (err == nil) != (node == 1) || (s == nil) != (node != 1) {
			t.Errorf("Replay at %d answers %v, %v", node, s, err)
		}
	}
	for _, node := range strange() {
		for _, rows := range [][][]byte{nil, right, {nil}, {right[1]}} {
			if s, err := store.Replay(node, rows); !is(err, api.ErrRange) || s != nil {
				t.Errorf("Replay at %d answers %v, %v", node, s, err)
			}
		}
	}
}

// TestSame is of stores each two of which differ, by one thing mostly.
func TestSame(t *testing.T) {
	context := func(outcome, depth int, expires float64) facts.Fact {
		return facts.Fact{Kind: facts.Opened, Act: own(1), Outcome: outcome, Depth: depth, Expires: expires}
	}
	two := []facts.Fact{joined(0, own(0), api.PC), joined(1, own(0), api.PC)}
	one := []facts.Fact{opened(0, api.Atomic), enrolled(0, 0, 0, 0, api.CC)}
	histories := [][]facts.Fact{
		nil,
		{opened(0, api.Atomic)}, {opened(0, api.Mixed)}, {opened(1, api.Atomic)}, {opened(0, api.Atomic), opened(1, api.Atomic)},
		{opened(0, api.Atomic), forgot(0)}, {opened(1, api.Atomic), forgot(1)}, {opened(0, api.Atomic), opened(1, api.Atomic), forgot(1)}, {opened(0, api.Atomic), opened(2, api.Atomic), forgot(2)},
		{context(1, 1, 0)}, {context(1, 2, 0)}, {context(2, 1, 0)}, {context(1, 0, 0)}, {context(1, 0, math.SmallestNonzeroFloat64)}, {context(1, 0, math.MaxFloat64)}, {context(1, 0, infinity)}, {context(1, 0, 1)}, {context(1, 0, math.Nextafter(1, 2))},
		{opened(0, api.Atomic), decided(0, 1)}, {opened(0, api.Atomic), decided(0, 2)},
		one, {one[0], enrolled(0, 0, 0, 0, api.PC)}, {one[0], enrolled(0, 0, 1, 0, api.CC)}, {one[0], enrolled(0, 0, 0, 1, api.CC)}, append(one[:2:2], enrolled(0, 1, 0, 1, api.CC)),
		append(one[:2:2], seated(0, 0, api.Completing, 0)), append(one[:2:2], seated(0, 0, api.Canceling, 0)), append(one[:2:2], seated(0, 0, api.Ended, api.Exit)), append(one[:2:2], seated(0, 0, api.Ended, api.Fail)),
		two[:1], two, {joined(0, own(1), api.PC)}, {joined(0, at(2, opened(0, 1)).Act, api.PC)}, {joined(0, own(0), api.CC)},
		append(two[:2:2], placed(0, 0)), append(two[:2:2], placed(0, 1)), append(two[:2:2], placed(1, 0)), append(two[:2:2], placed(0, 0), placed(1, 0)),
		append(two[:2:2], turned(0, api.Completed, 0)), append(two[:2:2], turned(1, api.Completed, 0)), append(two[:2:2], turned(0, api.Closing, 0)), append(two[:2:2], turned(0, api.Ended, api.Exit)), append(two[:2:2], turned(0, api.Ended, api.Closed)),
		append(two[:2:2], opened(0, api.Atomic)), append(two[:2:2], below(0, 1)), append(two[:2:2], below(0, 2)), append(two[:2:2], below(0, 2), below(1, 1)), append(two[:2:2], below(0, 1), below(1, 2)),
	}
	for i, a := range histories {
		for j, b := range histories {
			if got := store.Same(made(t, 1, a...), made(t, 1, b...)); got != (i == j) {
				t.Errorf("Same of\n%+v\nand\n%+v\nanswers %v", a, b, got)
			}
		}
	}
}

// TestSameOfNodes is of stores that know the same but for their nodes.
func TestSameOfNodes(t *testing.T) {
	for i := range 4 {
		for j := range 4 {
			if got := store.Same(made(t, i), made(t, j)); got != (i == j) {
				t.Errorf("Same of new ones of %d and %d answers %v", i, j, got)
			}
			f := joined(0, own(0), api.PC)
			if got := store.Same(made(t, i, f), made(t, j, f)); got != (i == j) {
				t.Errorf("Same of %d and %d answers %v", i, j, got)
			}
		}
	}
}

// TestSameByOtherWays is of stores that came to know the same by other facts, or the same ones in another order.
func TestSameByOtherWays(t *testing.T) {
	for _, c := range [][2][]facts.Fact{
		{{opened(0, api.Atomic), opened(1, api.Mixed), forgot(0)}, {opened(1, api.Mixed)}},
		{{opened(0, api.Atomic), forgot(0), opened(3, api.Mixed), forgot(3)}, {opened(3, api.Atomic), forgot(3)}},
		{{joined(0, own(0), api.PC), turned(0, api.Completed, 0), turned(0, api.Active, 0)}, {joined(0, own(0), api.PC)}},
		{{joined(0, own(0), api.PC), turned(0, api.Completed, 0), placed(0, 2)}, {joined(0, own(0), api.PC), placed(0, 2), turned(0, api.Closing, 0), turned(0, api.Completed, 0)}},
		{{opened(0, api.Atomic), joined(0, own(0), api.PC), opened(1, api.Atomic)}, {joined(0, own(0), api.PC), opened(0, api.Atomic), opened(1, api.Atomic)}},
		{{opened(0, api.Atomic), opened(1, api.Atomic), enrolled(0, 0, 0, 0, api.PC), decided(1, 2)}, {opened(0, api.Atomic), enrolled(0, 0, 0, 0, api.PC), opened(1, api.Atomic), decided(1, 2)}},
	} {
		a, b := made(t, 1, c[0]...), made(t, 1, c[1]...)
		if !store.Same(a, b) || !store.Same(b, a) || told(a) != told(b) {
			t.Errorf("Same of\n%+v\nand\n%+v\nanswers false", c[0], c[1])
		}
	}
}

// TestSameOfNone is of no store.
func TestSameOfNone(t *testing.T) {
	s := made(t, 0)
	if store.Same(nil, s) || store.Same(s, nil) || store.Same(nil, nil) || !store.Same(s, s) {
		t.Error("Same of no store answers true, or of one with itself false")
	}
}

// TestAnswersAreTheCallers changes all that is answered.
func TestAnswersAreTheCallers(t *testing.T) {
	s := made(t, 1, full()...)
	was := told(s)
	spoil := func(list []store.Reg) {
		for i := range list {
			list[i] = store.Reg{Node: -7}
		}
		_ = append(list, store.Reg{Node: -8})
	}
	first, second := s.Activities(), s.Activities()
	for i := range first {
		spoil(first[i].Regs)
		first[i] = store.Activity{Parent: -9}
	}
	_ = append(first, store.Activity{})
	if fmt.Sprintf("%+v", second) != fmt.Sprintf("%+v", s.Activities()) {
		t.Error("two lists of activities are shared")
	}
	for i := range 8 {
		a, _ := s.Find(own(i * 100))
		spoil(a.Regs)
		a, _ = s.Child(i)
		spoil(a.Regs)
	}
	clear(s.Parts())
	_ = append(s.Parts(), store.Part{})
	clear(s.Facts())
	if now := told(s); now != was {
		t.Errorf("a change of what is answered shows:\n%s\nnot\n%s", now, was)
	}
}

// TestListsOfOneAnswer is of the lists within an answer: none is a part of another one.
func TestListsOfOneAnswer(t *testing.T) {
	list := made(t, 1, full()...).Activities()
	for i := range list {
		was := fmt.Sprintf("%+v", slices.Concat(list[:i], list[i+1:]))
		regs := list[i].Regs
		clear(regs)
		_ = append(regs[:0], store.Reg{Node: -1}, store.Reg{Node: -1})
		for range 20 {
			regs = append(regs, store.Reg{Node: -1})
		}
		if now := fmt.Sprintf("%+v", slices.Concat(list[:i], list[i+1:])); now != was {
			t.Errorf("the list of %d is shared", i)
		}
	}
}

// TestAnswersStay is of what was answered, behind later facts.
func TestAnswersStay(t *testing.T) {
	s := made(t, 1, joined(0, own(0), api.PC), opened(0, api.Atomic), enrolled(0, 0, 0, 0, api.PC), below(1, 1), enrolled(1, 0, 0, 0, api.PC), opened(2, api.Atomic))
	list, ps, fs := s.Activities(), s.Parts(), s.Facts()
	one, _ := s.Find(own(0))
	child, _ := s.Child(0)
	before := fmt.Sprintf("%+v %+v %+v %+v %+v", list, ps, fs, one, child)
	for _, f := range []facts.Fact{seated(0, 0, api.Ended, api.Exit), seated(1, 0, api.Completed, 0), enrolled(0, 1, 0, 1, api.PC), decided(1, 1), placed(0, 4), turned(0, api.Completed, 0), forgot(2), seated(0, 1, api.Ended, api.Fail), forgot(0), joined(1, own(0), api.PC), opened(9, api.Mixed)} {
		if err := s.Apply(f); err != nil {
			t.Fatal(err)
		}
	}
	if after := fmt.Sprintf("%+v %+v %+v %+v %+v", list, ps, fs, one, child); after != before {
		t.Errorf("what was answered has become\n%s\nfrom\n%s", after, before)
	}
}

// TestRowsAreTheCallers changes rows behind their Replay.
func TestRowsAreTheCallers(t *testing.T) {
	rows := rowsOf(t, full()...)
	s, err := store.Replay(1, rows)
	if err != nil {
		t.Fatal(err)
	}
	was := told(s)
	for i := range rows {
		clear(rows[i])
		rows[i] = nil
	}
	if told(s) != was {
		t.Error("a later change of rows shows")
	}
}

// TestStoresAreApart is of two stores of the same facts: what one is told the other one isn't.
func TestStoresAreApart(t *testing.T) {
	a := made(t, 1, opened(0, api.Atomic), enrolled(0, 0, 0, 0, api.PC), joined(0, own(0), api.PC))
	b := made(t, 1, a.Facts()...)
	was := told(b)
	for _, f := range []facts.Fact{seated(0, 0, api.Completed, 0), decided(0, 1), placed(0, 0), turned(0, api.Completed, 0), opened(1, api.Mixed)} {
		if err := a.Apply(f); err != nil {
			t.Fatal(err)
		}
	}
	if told(b) != was || store.Same(a, b) {
		t.Error("what one store is told shows in another one")
	}
}
