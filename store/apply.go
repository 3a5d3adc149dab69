package store

import (
	"slices"

	"liaison/api"
	"liaison/facts"
	"liaison/moves"
)

// unplaced is the Reg of a participant that isn't placed.
const unplaced = -1

// Apply does what a fact does.
func (s *Store) Apply(f facts.Fact) error {
	if !f.Right() {
		return api.ErrForm
	}
	do := s.change(f)
	if do == nil {
		return api.ErrState
	}
	do()
	return nil
}

// change is what does a right fact; nil, if the store is in no state for it. All is asked ahead, so that what doesn't fit changes nothing.
func (s *Store) change(f facts.Fact) func() {
	switch f.Kind {
	case facts.Opened:
		return s.opened(f)
	case facts.Enrolled:
		return s.enrolled(f)
	case facts.Seated:
		return s.seated(f)
	case facts.Decided:
		return s.decided(f)
	case facts.Forgot:
		return s.forgot(f)
	case facts.Joined:
		return s.joined(f)
	case facts.Placed:
		return s.placed(f)
	case facts.Turned:
		return s.turned(f)
	}
	return nil
}

func (s *Store) opened(f facts.Fact) func() {
	if f.Act.Node != s.node || f.Act.Seq < s.next || len(s.activities) >= api.MaxActs || !s.free(f.Parent) {
		return nil
	}
	return func() {
		c := api.Context{Act: f.Act, Outcome: f.Outcome, Depth: f.Depth, Expires: f.Expires}
		s.activities = append(s.activities, Activity{Context: c, Parent: f.Parent})
		s.next = f.Act.Seq + 1
	}
}

// free tells whether an activity may have this Parent.
func (s *Store) free(parent int) bool {
	if parent == 0 {
		return true
	}
	_, there := s.Part(parent - 1)
	_, taken := s.Child(parent - 1)
	return there && !taken
}

func (s *Store) enrolled(f facts.Fact) func() {
	a := s.activity(f)
	if a == nil || f.Reg != len(a.Regs) || a.Decision != 0 {
		return nil
	}
	if slices.ContainsFunc(a.Regs, func(r Reg) bool { return r.Node == f.Node && r.Part == f.Part }) {
		return nil
	}
	return func() {
		a.Regs = append(a.Regs, Reg{Node: f.Node, Part: f.Part, Seat: begun(f, api.Coordinator)})
	}
}

func (s *Store) seated(f facts.Fact) func() {
	a := s.activity(f)
	if a == nil || f.Reg >= len(a.Regs) {
		return nil
	}
	return sits(f, &a.Regs[f.Reg].Seat)
}

func (s *Store) decided(f facts.Fact) func() {
	a := s.activity(f)
	if a == nil || a.Context.Outcome != api.Atomic || a.Decision != 0 {
		return nil
	}
	return func() { a.Decision = f.Decision }
}

func (s *Store) forgot(f facts.Fact) func() {
	a := s.activity(f)
	if a == nil || slices.ContainsFunc(a.Regs, func(r Reg) bool { return r.Seat.State != api.Ended }) {
		return nil
	}
	return func() {
		s.activities = slices.DeleteFunc(s.activities, func(one Activity) bool { return one.Context.Act == f.Act })
	}
}

func (s *Store) joined(f facts.Fact) func() {
	if f.Part != len(s.parts) {
		return nil
	}
	return func() {
		s.parts = append(s.parts, Part{Act: f.Act, Reg: unplaced, Seat: begun(f, api.Participant)})
	}
}

func (s *Store) placed(f facts.Fact) func() {
	if f.Part >= len(s.parts) || s.parts[f.Part].Reg != unplaced {
		return nil
	}
	return func() { s.parts[f.Part].Reg = f.Reg }
}

func (s *Store) turned(f facts.Fact) func() {
	if f.Part >= len(s.parts) {
		return nil
	}
	return sits(f, &s.parts[f.Part].Seat)
}

// activity is where a fact's activity is kept, nil if there is none.
func (s *Store) activity(f facts.Fact) *Activity {
	for i := range s.activities {
		if s.activities[i].Context.Act == f.Act {
			return &s.activities[i]
		}
	}
	return nil
}

// begun is the seat with which a side of a fact's protocol begins.
func begun(f facts.Fact, side int) moves.Seat {
	// The protocol of a right fact is one, so that there is no error.
	seat, _ := moves.New(f.Protocol, side)
	return seat
}

// sits is what gives a seat a fact's State and How; nil, if it may not have them.
func sits(f facts.Fact, seat *moves.Seat) func() {
	next := moves.Seat{Protocol: seat.Protocol, Side: seat.Side, State: f.State, How: f.How}
	if seat.State == api.Ended || !next.Right() {
		return nil
	}
	return func() { *seat = next }
}
