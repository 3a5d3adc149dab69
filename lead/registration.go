package lead

import (
	"liaison/api"
	"liaison/facts"
	"liaison/moves"
	"liaison/partner"
	"liaison/store"
)

// registration is what is known of a registration: its activity and its number there too.
type registration struct {
	store.Reg
	activity store.Activity
	number   int
}

// registered is a registration of an activity.
func registered(s *store.Store, a api.Act, number int) (registration, bool) {
	// An activity that isn't there has no registrations.
	activity, _ := find(s, a)
	return numbered(activity, number)
}

// numbered is an activity's registration of a number.
func numbered(a store.Activity, number int) (registration, bool) {
	if number < 0 || number >= len(a.Regs) {
		return registration{}, false
	}
	return registration{Reg: a.Regs[number], activity: a, number: number}, true
}

// speaks tells whether a message comes from its participant.
func (r registration) speaks(m api.Message) bool {
	return r.Node == m.From && r.Part == m.Part
}

// message is the coordinator's message of a kind to it.
func (r registration) message(kind int) api.Message {
	a := r.activity.Context.Act
	return api.Message{Kind: kind, From: a.Node, To: r.Node, Act: a, Reg: r.number, Part: r.Part}
}

// seats is the fact that its seat is this one.
func (r registration) seats(seat moves.Seat) facts.Fact {
	return facts.Fact{Kind: facts.Seated, Act: r.activity.Context.Act, Reg: r.number, State: seat.State, How: seat.How}
}

// result is what comes of its seat's effect; a coordinator's application has nothing to do.
func (r registration) result(e moves.Effect) partner.Result {
	var result partner.Result
	if e.Changed {
		result.Facts = append(result.Facts, r.seats(e.Seat))
	}
	if e.Send != 0 {
		result.Send = append(result.Send, r.message(e.Send))
	}
	return result
}
