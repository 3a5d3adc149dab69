package moves_test

import (
	"slices"
	"testing"

	"liaison/api"
	"liaison/moves"
)

// Tests of P11.2.

// comes tells whether a seat ended by a kind, or is on the way there.
func comes(s moves.Seat, how int) bool {
	if s.State == api.Ended {
		return s.How == how
	}
	ways := map[int][]int{
		api.Closed:         {api.Closing},
		api.Compensated:    {api.Compensating},
		api.Canceled:       {api.Canceling, api.CancelingCompleting},
		api.Exit:           {api.Exiting},
		api.Fail:           {api.FailingActive, api.FailingCanceling, api.FailingCompleting, api.FailingCompensating},
		api.CannotComplete: {api.NotCompleting},
	}
	return slices.Contains(ways[how], s.State)
}

// alike tells whether two sides end alike, as far as one has ended.
func alike(coordinator, participant moves.Seat) bool {
	if coordinator.State == api.Ended && !comes(participant, coordinator.How) {
		return false
	}
	switch participant.How {
	case api.Closed, api.Compensated, api.Canceled:
		return comes(coordinator, participant.How)
	}
	return true
}

// past is what has come of a pair, and what was ever sent, which may be lost, or come at any time, and any number of times.
type past struct {
	coordinator, participant moves.Seat
	sent, works              kinds
	completed                bool
}

// kinds is a set of kinds; 0, which is none, isn't kept in it.
type kinds uint32

func (k kinds) with(kind int) kinds {
	return (k | 1<<kind) &^ 1
}

func (k kinds) has(kind int) bool {
	return k>>kind&1 == 1
}

// next is what may come behind a past; what is told is handed to a function ahead.
func (w past) next(told func(w past, kind int, e moves.Effect)) []past {
	var list []past
	coordinator := func(e moves.Effect) {
		n := w
		n.coordinator, n.sent = e.Seat, w.sent.with(e.Send)
		list = append(list, n)
	}
	participant := func(e moves.Effect) {
		n := w
		n.participant, n.sent, n.works = e.Seat, w.sent.with(e.Send), w.works.with(e.Work)
		n.completed = w.completed || e.Seat.State == api.Completed
		list = append(list, n)
	}
	for kind := api.Exit; kind <= api.NotCompleted; kind++ {
		if e, err := w.coordinator.Do(kind); err == nil {
			coordinator(e)
		}
		if e, err := w.participant.Do(kind); err == nil {
			participant(e)
		}
		if !w.sent.has(kind) {
			continue
		}
		if e, err := w.coordinator.Tell(kind); err == nil && goesUp(kind) {
			told(w, kind, e)
			coordinator(e)
		}
		if e, err := w.participant.Tell(kind); err == nil && !goesUp(kind) {
			told(w, kind, e)
			participant(e)
		}
	}
	coordinator(moves.Effect{Seat: w.coordinator, Send: w.coordinator.Waits()})
	participant(moves.Effect{Seat: w.participant, Send: w.participant.Waits()})
	return list
}

// goesUp tells whether a kind is one that a coordinator is told.
func goesUp(kind int) bool {
	return slices.Contains([]int{api.Exit, api.IsCompleted, api.Fail, api.CannotComplete, api.Canceled, api.Closed, api.Compensated}, kind)
}

// pasts is all that may come of a pair.
func pasts(t *testing.T, protocol int, told func(w past, kind int, e moves.Effect)) map[past]bool {
	t.Helper()
	p := pair(t, protocol)
	first := past{coordinator: p.Seat(api.Coordinator), participant: p.Seat(api.Participant)}
	seen := map[past]bool{first: true}
	for work := []past{first}; len(work) > 0; work = work[1:] {
		for _, n := range work[0].next(told) {
			if !seen[n] {
				seen[n] = true
				work = append(work, n)
			}
		}
	}
	return seen
}

// TestEndsAlike goes through all that may come of a pair, whatever is done, lost, copied or turned.
func TestEndsAlike(t *testing.T) {
	for _, protocol := range []int{api.PC, api.CC} {
		seen := pasts(t, protocol, func(w past, kind int, e moves.Effect) {
			if (kind == api.Close || kind == api.Compensate) && (!w.completed || e.Fault != 0) {
				t.Errorf("a participant that wasn't Completed is told %d: %+v, %+v", kind, w, e)
			}
		})
		ended := kinds(0)
		for w := range seen {
			if !alike(w.coordinator, w.participant) {
				t.Errorf("by protocol %d both sides don't end alike: %+v", protocol, w)
			}
			if w.works.has(api.Close) && w.works.has(api.Compensate) {
				t.Errorf("by protocol %d the application is to close and to compensate: %+v", protocol, w)
			}
			if w.coordinator.How == w.participant.How {
				ended = ended.with(w.coordinator.How)
			}
		}
		for _, how := range hows {
			if !ended.has(how) {
				t.Errorf("by protocol %d no pair ends by %d", protocol, how)
			}
		}
	}
}

// TestPairsEndAlike holds the same of pairs, each with what its application was ever told to do.
func TestPairsEndAlike(t *testing.T) {
	for _, protocol := range []int{api.PC, api.CC} {
		met := map[[2]moves.Seat]bool{}
		reached(t, protocol, 3, func(p *moves.Pair) {
			met[[2]moves.Seat{p.Seat(api.Coordinator), p.Seat(api.Participant)}] = true
			if !alike(p.Seat(api.Coordinator), p.Seat(api.Participant)) {
				t.Errorf("both sides don't end alike: %+v", wordsOf(p))
			}
		})
		// Three on their way are enough for all that may come of two seats.
		all := map[[2]moves.Seat]bool{}
		for w := range pasts(t, protocol, func(past, int, moves.Effect) {}) {
			all[[2]moves.Seat{w.coordinator, w.participant}] = true
		}
		for both := range all {
			if !met[both] {
				t.Errorf("no pair comes to %+v", both)
			}
		}
		if len(met) != len(all) {
			t.Errorf("by protocol %d pairs come to %d seats, not %d", protocol, len(met), len(all))
		}
	}
	works := map[*moves.Pair]kinds{}
	thrown(t, 1000, 150, func(p *moves.Pair, c call, after func() answer) {
		before := p.Seat(api.Participant).State
		a := after()
		if !alike(p.Seat(api.Coordinator), p.Seat(api.Participant)) {
			t.Fatalf("both sides don't end alike: %+v", wordsOf(p))
		}
		works[p] = works[p].with(a.e.Work)
		if works[p].has(api.Close) && works[p].has(api.Compensate) {
			t.Fatalf("the application is to close and to compensate: %+v", wordsOf(p))
		}
		if (a.e.Work == api.Close || a.e.Work == api.Compensate) && before != api.Completed {
			t.Fatalf("told to do %d in %d", a.e.Work, before)
		}
	})
}

// Tests of P11.3.

// plan is what applications do: a coordinator's that is Active or Completed, 0 if it decides nothing, and a participant's by its work.
type plan struct {
	active, completed            int
	complete, cancel, compensate int
}

// plans is all plans of a protocol in which the coordinator decides.
func plans(protocol int) []plan {
	actives, completes := []int{api.Cancel}, []int{0}
	if protocol == api.CC {
		actives = []int{api.Cancel, api.Complete}
		completes = []int{api.IsCompleted, api.Exit, api.Fail, api.CannotComplete}
	}
	var list []plan
	for _, active := range actives {
		for _, completed := range []int{api.Close, api.Compensate} {
			for _, complete := range completes {
				for _, cancel := range []int{api.Canceled, api.Fail} {
					for _, compensate := range []int{api.Compensated, api.Fail} {
						list = append(list, plan{active, completed, complete, cancel, compensate})
					}
				}
			}
		}
	}
	return list
}

// answer is what a participant's application does by its work, 0 if nothing.
func (one plan) answer(work int) int {
	return map[int]int{api.Complete: one.complete, api.Close: api.Closed, api.Cancel: one.cancel, api.Compensate: one.compensate}[work]
}

// decision is what a coordinator's application does in a state, 0 if nothing.
func (one plan) decision(state int) int {
	return map[int]int{api.Active: one.active, api.Completed: one.completed}[state]
}

// goOn delivers all, lets each side send again, and applications do what they have to, some times.
func (one plan) goOn(t *testing.T, p *moves.Pair) {
	t.Helper()
	for range 10 {
		for len(p.Flight()) > 0 {
			if _, err := p.Deliver(0, false); err != nil {
				t.Fatal(err)
			}
		}
		if kind := one.answer(p.Seat(api.Participant).Work()); kind != 0 {
			must(t, p, api.Participant, kind)
		}
		if kind := one.decision(p.Seat(api.Coordinator).State); kind != 0 {
			must(t, p, api.Coordinator, kind)
		}
		for _, side := range []int{api.Coordinator, api.Participant} {
			if p.Again(side) != (p.Seat(side).Waits() != 0) {
				t.Fatalf("side %d doesn't send again: %+v", side, wordsOf(p))
			}
		}
	}
}

// ended holds that of a pair, as it is and with all lost, both sides end alike by all plans.
func ended(t *testing.T, p *moves.Pair) {
	t.Helper()
	lost := *p
	for len(lost.Flight()) > 0 {
		if err := lost.Drop(0); err != nil {
			t.Fatal(err)
		}
	}
	for _, from := range []*moves.Pair{p, &lost} {
		for _, one := range plans(p.Seat(api.Coordinator).Protocol) {
			q := *from
			one.goOn(t, &q)
			a, b := q.Seat(api.Coordinator), q.Seat(api.Participant)
			if a.State != api.Ended || b.State != api.Ended || a.How != b.How || len(q.Flight()) != 0 {
				t.Errorf("from %+v by %+v comes %+v", wordsOf(from), one, wordsOf(&q))
			}
		}
	}
}

// TestBothEnd goes on from all pairs with at most two on their way.
func TestBothEnd(t *testing.T) {
	for _, protocol := range []int{api.PC, api.CC} {
		reached(t, protocol, 2, func(p *moves.Pair) { ended(t, p) })
	}
}

// TestBothEndFromFull goes on from thrown pairs with as many on their way as may be.
func TestBothEndFromFull(t *testing.T) {
	done := map[*moves.Pair]bool{}
	thrown(t, 3000, 250, func(p *moves.Pair, c call, after func() answer) {
		after()
		if len(done) < 40 && len(p.Flight()) == api.MaxFlight && !done[p] {
			done[p] = true
			ended(t, p)
		}
	})
	ended(t, filled(t))
	if len(done) < 20 {
		t.Errorf("just %d pairs were full", len(done))
	}
}

// TestRest lets nobody decide: what doesn't end then rests where a decision is due, and nowhere else.
func TestRest(t *testing.T) {
	for _, protocol := range []int{api.PC, api.CC} {
		reached(t, protocol, 2, func(p *moves.Pair) {
			q := *p
			plan{complete: api.IsCompleted, cancel: api.Canceled, compensate: api.Compensated}.goOn(t, &q)
			a, b := q.Seat(api.Coordinator).State, q.Seat(api.Participant).State
			due := a == api.Active || a == api.Completed
			if a != b || a != api.Ended && !due {
				t.Errorf("from %+v comes %+v", wordsOf(p), wordsOf(&q))
			}
		})
	}
}
