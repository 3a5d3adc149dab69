package lead

import (
	"slices"

	"liaison/api"
	"liaison/facts"
	"liaison/letter"
	"liaison/partner"
	"liaison/store"
	"liaison/tables"
)

// cancels is the Decision by which an activity cancels.
const cancels = 2

// Tell tells a coordinator a message.
func Tell(s *store.Store, m api.Message, now float64) partner.Result {
	switch {
	case s == nil || m.To != s.Node():
		return partner.Result{}
	case m.Kind == api.Register:
		return enrolls(s, m, now)
	case m.Kind == api.GetStatus || letter.Up(m.Kind):
		return hears(s, m)
	}
	return partner.Result{}
}

// answer is a result that is nothing but an answer to a message.
func answer(m api.Message, kind, code int) partner.Result {
	return partner.Result{Send: []api.Message{letter.Answer(m, kind, code)}}
}

// enrolls is what comes of a Register. Whether there may be such a participant isn't asked here: that is told by who applies the fact.
func enrolls(s *store.Store, m api.Message, now float64) partner.Result {
	a, there := find(s, m.Act)
	if !there {
		return answer(m, api.Fault, api.UnknownActivity)
	}
	number := slices.IndexFunc(a.Regs, func(r store.Reg) bool { return registration{Reg: r}.speaks(m) })
	switch {
	case number >= 0 && a.Regs[number].Seat.Protocol != m.Protocol:
		return answer(m, api.Fault, api.InvalidProtocol)
	case number >= 0:
		return confirms(m, number)
	case !takes(s, a, now):
		return answer(m, api.Fault, api.CannotRegister)
	}
	result := confirms(m, len(a.Regs))
	result.Facts = []facts.Fact{{Kind: facts.Enrolled, Act: m.Act, Reg: len(a.Regs), Node: m.From, Part: m.Part, Protocol: m.Protocol}}
	return result
}

// confirms is the answer to a Register of which there is a registration, by the same protocol.
func confirms(m api.Message, number int) partner.Result {
	r := answer(m, api.Registered, 0)
	r.Send[0].Reg, r.Send[0].Protocol = number, m.Protocol
	return r
}

// hears is what comes of a GetStatus, or a kind that goes Up.
func hears(s *store.Store, m api.Message) partner.Result {
	a, there := find(s, m.Act)
	if !there {
		return recalls(s, m)
	}
	r, there := numbered(a, m.Reg)
	switch {
	case !there || !r.speaks(m):
		return answer(m, api.Fault, api.InvalidParameters)
	case m.Kind == api.GetStatus:
		return answer(m, api.Status, r.Seat.State)
	}
	return r.told(m)
}

// recalls is what is answered where an activity isn't there: one that was is forgotten just when all its registrations had ended.
func recalls(s *store.Store, m api.Message) partner.Result {
	switch {
	case m.Act.Node != s.Node() || m.Act.Seq < 0 || m.Act.Seq >= s.Next():
		return answer(m, api.Fault, api.UnknownActivity)
	case m.Kind == api.GetStatus:
		return answer(m, api.Status, api.Ended)
	}
	// A coordinator is told each kind that goes Up, so that there is no error.
	cell, _ := tables.Look(api.PC, api.Coordinator, m.Kind, api.Ended)
	if cell.Do != tables.Resend {
		return partner.Result{}
	}
	return answer(m, cell.Send, 0)
}

// told is what comes of its seat being told a kind that goes Up.
func (r registration) told(m api.Message) partner.Result {
	// The seats of a store are right, so that there is no error.
	e, _ := r.Seat.Tell(m.Kind)
	if e.Changed && e.Seat.State == api.Completed && r.activity.Decision == cancels {
		// It was decided ahead of this: a Completed one may always compensate.
		e, _ = e.Seat.Do(api.Compensate)
	}
	result := r.result(e)
	if e.Fault != 0 {
		result.Send = append(result.Send, letter.Answer(m, api.Fault, e.Fault))
	}
	return result
}
