package store

import (
	"slices"

	"liaison/api"
	"liaison/facts"
)

// Facts is the least facts that make it.
func (s *Store) Facts() []facts.Fact {
	var list []facts.Fact
	for i, p := range s.parts {
		list = append(list, p.facts(i)...)
	}
	for _, a := range s.activities {
		list = append(list, a.facts()...)
	}
	return append(list, s.gone()...)
}

// facts is what makes the participant of a number.
func (p Part) facts(number int) []facts.Fact {
	list := []facts.Fact{{Kind: facts.Joined, Part: number, Act: p.Act, Protocol: p.Seat.Protocol}}
	if p.Reg != unplaced {
		list = append(list, facts.Fact{Kind: facts.Placed, Part: number, Reg: p.Reg})
	}
	if p.Seat.State != api.Active {
		list = append(list, facts.Fact{Kind: facts.Turned, Part: number, State: p.Seat.State, How: p.Seat.How})
	}
	return list
}

// facts is what makes an activity.
func (a Activity) facts() []facts.Fact {
	c := a.Context
	list := []facts.Fact{{Kind: facts.Opened, Act: c.Act, Outcome: c.Outcome, Depth: c.Depth, Expires: c.Expires, Parent: a.Parent}}
	for i, r := range a.Regs {
		list = append(list, facts.Fact{Kind: facts.Enrolled, Act: c.Act, Reg: i, Node: r.Node, Part: r.Part, Protocol: r.Seat.Protocol})
	}
	for i, r := range a.Regs {
		if r.Seat.State != api.Active {
			list = append(list, facts.Fact{Kind: facts.Seated, Act: c.Act, Reg: i, State: r.Seat.State, How: r.Seat.How})
		}
	}
	if a.Decision != 0 {
		list = append(list, facts.Fact{Kind: facts.Decided, Act: c.Act, Decision: a.Decision})
	}
	return list
}

// gone is what makes Next, where no activity that is there does: one that comes and goes.
func (s *Store) gone() []facts.Fact {
	last := api.Act{Node: s.node, Seq: s.next - 1}
	if _, there := s.Find(last); there || s.next == 0 {
		return nil
	}
	return []facts.Fact{{Kind: facts.Opened, Act: last, Outcome: api.Atomic}, {Kind: facts.Forgot, Act: last}}
}

// Replay is the store of rows.
func Replay(node int, rows [][]byte) (*Store, error) {
	s, err := New(node)
	if err != nil {
		return nil, err
	}
	for _, row := range rows {
		f, err := facts.Read(row)
		if err != nil || s.Apply(f) != nil {
			return nil, api.ErrCheck
		}
	}
	return s, nil
}

// Same tells whether stores know the same.
func Same(a, b *Store) bool {
	if a == nil || b == nil {
		return false
	}
	// A store's facts make it, and no other store of its node.
	return a.node == b.node && slices.EqualFunc(a.Facts(), b.Facts(), facts.Same)
}
