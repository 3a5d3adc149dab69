package partner

import (
	"liaison/api"
	"liaison/facts"
	"liaison/letter"
	"liaison/moves"
	"liaison/store"
)

// unplaced is the Reg of a participant that isn't placed.
const unplaced = -1

// known is what is known of a participant: its node and its number there too.
type known struct {
	store.Part
	node, number int
}

// find is what a store knows of a participant; a store that is nil knows none.
func find(s *store.Store, number int) (known, bool) {
	if s == nil {
		return known{}, false
	}
	p, there := s.Part(number)
	return known{Part: p, node: s.Node(), number: number}, there
}

// placed tells whether it is placed.
func (p known) placed() bool {
	return p.Reg != unplaced
}

// fits tells whether a message to a participant of its number fits it.
func (p known) fits(m api.Message) bool {
	return m.Act == p.Act &&
		m.From == p.Act.Node &&
		m.To == p.node &&
		(!p.placed() || m.Reg == p.Reg)
}

// message is its message of a kind.
func (p known) message(kind int) api.Message {
	m := api.Message{Kind: kind, From: p.node, To: p.Act.Node, Act: p.Act, Part: p.number}
	if p.placed() {
		m.Reg = p.Reg
	}
	return m
}

// register is the Register of one that isn't placed.
func (p known) register() api.Message {
	m := p.message(api.Register)
	m.Protocol = p.Seat.Protocol
	return m
}

// registerAgain is the Register of one that isn't placed, if it still asks for a registration.
func (p known) registerAgain() (api.Message, bool) {
	if p.Seat.State != api.Active {
		return api.Message{}, false
	}
	return p.register(), true
}

// joins is the fact that it is to be registered.
func (p known) joins() facts.Fact {
	return facts.Fact{Kind: facts.Joined, Part: p.number, Act: p.Act, Protocol: p.Seat.Protocol}
}

// turns is the fact that its seat is this one.
func (p known) turns(seat moves.Seat) facts.Fact {
	return facts.Fact{Kind: facts.Turned, Part: p.number, State: seat.State, How: seat.How}
}

// places is the fact that it is placed as a registration, and whether there may be one of this number: there is no row for any other.
func (p known) places(reg int) (facts.Fact, bool) {
	f := facts.Fact{Kind: facts.Placed, Part: p.number, Reg: reg}
	return f, f.Right()
}

// registered is what comes of a Registered that fits.
func (p known) registered(m api.Message) Result {
	f, right := p.places(m.Reg)
	if p.placed() || !right {
		return Result{}
	}
	return Result{Facts: []facts.Fact{f}}
}

// refused is what comes of a Fault that fits.
func (p known) refused(m api.Message) Result {
	if p.placed() || p.Seat.State != api.Active {
		return Result{}
	}
	switch m.Code {
	case api.InvalidProtocol, api.CannotRegister, api.UnknownActivity:
		return Result{Facts: []facts.Fact{p.turns(moves.Seat{State: api.Ended, How: api.Exit})}}
	}
	return Result{}
}

// told is what comes of a kind that goes Down, and fits.
func (p known) told(m api.Message) Result {
	var list []facts.Fact
	if !p.placed() {
		f, right := p.places(m.Reg)
		if !right {
			return answer(m, api.Fault, api.InvalidParameters)
		}
		list = append(list, f)
		p.Reg = m.Reg
	}
	// The seats of a store are right, so that there is no error.
	e, _ := p.Seat.Tell(m.Kind)
	r := p.result(e)
	r.Facts = append(list, r.Facts...)
	if e.Fault != 0 {
		r.Send = append(r.Send, letter.Answer(m, api.Fault, e.Fault))
	}
	return r
}

// result is what comes of its seat's effect.
func (p known) result(e moves.Effect) Result {
	r := Result{Work: e.Work}
	if e.Changed {
		r.Facts = append(r.Facts, p.turns(e.Seat))
	}
	if e.Send != 0 {
		r.Send = append(r.Send, p.message(e.Send))
	}
	return r
}
