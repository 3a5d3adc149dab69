package partner

import (
	"liaison/api"
	"liaison/facts"
	"liaison/letter"
	"liaison/moves"
	"liaison/store"
)

// unplaced is the Reg of a participant that isn't placed.
const unplaced = -1

// known is what is known of a participant: its node and its number there too.
type known struct {
	store.Part
	node, number int
}

// find is what a store knows of a participant; a store that is nil knows none.
func find(s *store.Store, number int) (known, bool) {
	if s == nil {
		return known{}, false
	}
	p, there := s.Part(number)
	return known{Part: p, node: s.Node(), number: number}, there
}

// placed tells whether it is placed.
func (p known) placed() bool {
	return p.Reg != unplaced
}

// fits tells whether a message to a participant of its number fits it.
func (p known) fits(m api.Message) bool {
	return m.Act == p.Act &&
		m.From == p.Act.Node &&
		m.To == p.node &&
		(!p.placed() || m.Reg == p.Reg)
}

// message is its message of a kind, with a Reg: its own may be none yet.
func (p known) message(kind, reg int) api.Message {
	return api.Message{Kind: kind, From: p.node, To: p.Act.Node, Act: p.Act, Reg: reg, Part: p.number}
}

// register is the Register of one that isn't placed.
func (p known) register() api.Message {
	m := p.message(api.Register, 0)
	m.Protocol = p.Seat.Protocol
	return m
}

// registerAgain is the Register of one that isn't placed, if it still asks for a registration.
func (p known) registerAgain() (api.Message, bool) {
	if p.Seat.State != api.Active {
		return api.Message{}, false
	}
	return p.register(), true
}

// joins is the fact that it is to be registered.
func (p known) joins() facts.Fact {
	return facts.Fact{Kind: facts.Joined, Part: p.number, Act: p.Act, Protocol: p.Seat.Protocol}
}

// turns is the fact that its seat is this one.
func (p known) turns(seat moves.Seat) facts.Fact {
	return facts.Fact{Kind: facts.Turned, Part: p.number, State: seat.State, How: seat.How}
}

// places is the fact that it is placed, if it isn't yet. Whether there may be such a registration isn't asked here: that is told by who applies the fact.
func (p known) places(reg int) []facts.Fact {
	if p.placed() {
		return nil
	}
	return []facts.Fact{{Kind: facts.Placed, Part: p.number, Reg: reg}}
}

// refused is what comes of a Fault that fits.
func (p known) refused(m api.Message) Result {
	if p.placed() || p.Seat.State != api.Active {
		return Result{}
	}
	switch m.Code {
	case api.InvalidProtocol, api.CannotRegister, api.UnknownActivity:
		return Result{Facts: []facts.Fact{p.turns(moves.Seat{State: api.Ended, How: api.Exit})}}
	}
	return Result{}
}

// told is what comes of a kind that goes Down, and fits.
func (p known) told(m api.Message) Result {
	// The seats of a store are right, so that there is no error.
	e, _ := p.Seat.Tell(m.Kind)
	r := p.result(e, m.Reg)
	r.Facts = append(p.places(m.Reg), r.Facts...)
	if e.Fault != 0 {
		r.Send = append(r.Send, letter.Answer(m, api.Fault, e.Fault))
	}
	return r
}

// result is what comes of its seat's effect; what is sent has this Reg.
func (p known) result(e moves.Effect, reg int) Result {
	r := Result{Work: e.Work}
	if e.Changed {
		r.Facts = append(r.Facts, p.turns(e.Seat))
	}
	if e.Send != 0 {
		r.Send = append(r.Send, p.message(e.Send, reg))
	}
	return r
}
