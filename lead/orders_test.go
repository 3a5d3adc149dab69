package lead_test

import (
	"fmt"
	"math"
	"testing"

	"liaison/api"
	"liaison/facts"
	"liaison/lead"
	"liaison/moves"
	"liaison/partner"
	"liaison/store"
)

// Tests of all places of a registration, and of thrown stores.

// place is where a registration stands: its seat.
type place struct {
	protocol, state, how int
}

// places is all places of a coordinator's seat.
func places() []place {
	var list []place
	for _, protocol := range []int{api.PC, api.CC} {
		for state := api.Active; state <= api.Ended; state++ {
			for how := range 9 {
				if (moves.Seat{Protocol: protocol, Side: api.Coordinator, State: state, How: how}).Right() {
					list = append(list, place{protocol, state, how})
				}
			}
		}
	}
	return list
}

// stand is a store of a node with an activity of which one registration stands at a place, behind others that are Active, of participants that are nearly this one; besides there is another activity with the same participant. The Decision of a Mixed one is 0.
func stand(t *testing.T, act api.Act, outcome, decision, number, node, part int, at place) *store.Store {
	t.Helper()
	other := api.Act{Node: act.Node, Seq: act.Seq - 1}
	s := made(t, act.Node,
		facts.Fact{Kind: facts.Opened, Act: other, Outcome: api.Mixed, Expires: 9},
		facts.Fact{Kind: facts.Enrolled, Act: other, Node: node, Part: part, Protocol: 3 - at.protocol},
		facts.Fact{Kind: facts.Opened, Act: act, Outcome: outcome, Expires: 9},
	)
	for i := range number {
		near := facts.Fact{Kind: facts.Enrolled, Act: act, Reg: i, Node: (node + 1 + i%3) % 4, Part: (part + i/3) % 8, Protocol: 1 + i%2}
		apply(t, s, near)
	}
	apply(t, s, facts.Fact{Kind: facts.Enrolled, Act: act, Reg: number, Node: node, Part: part, Protocol: at.protocol})
	apply(t, s, facts.Fact{Kind: facts.Seated, Act: act, Reg: number, State: at.state, How: at.how})
	if decision > 0 {
		apply(t, s, facts.Fact{Kind: facts.Decided, Act: act, Decision: decision})
	}
	return s
}

// TestAllPlaces is of each place of a registration, Mixed, Atomic and decided: of messages that are its, or not for one thing, and of kinds by which it is directed.
func TestAllPlaces(t *testing.T) {
	counts := map[string]int{}
	for i, at := range places() {
		for j, of := range [][2]int{{api.Mixed, 0}, {api.Atomic, 0}, {api.Atomic, 1}, {api.Atomic, 2}} {
			act, number, node, part := api.Act{Node: i % 4, Seq: 5 + i}, (i+j)%6, (i/4+j)%4, (3*i+j)%8
			s := stand(t, act, of[0], of[1], number, node, part, at)
			still := stays(t, s)
			for kind := -1; kind < 21; kind++ {
				m := api.Message{Kind: kind, From: node, To: act.Node, Act: act, Reg: number, Part: part, Protocol: at.protocol}
				for _, m := range nearly(m) {
					r := tells(t, s, m, float64(8+i%2))
					counts[fmt.Sprint("Tell ", len(r.Facts), len(r.Send))]++
				}
				for other := -1; other < number+2; other++ {
					counts[fmt.Sprint("Direct ", directs(t, s, act, other, kind))]++
					counts[fmt.Sprint("Again ", sends(t, s, act, other, kind))]++
				}
			}
			counts[fmt.Sprint("Forget ", forgets(t, s, act))]++
			still()
		}
	}
	least := map[string]int{
		"Tell 0 0": 10000, "Tell 0 1": 10000, "Tell 1 0": 300, "Tell 1 1": 1000,
		"Direct <nil>": 30, "Direct liaison: range": 5000, "Direct liaison: form": 2000, "Direct liaison: state": 1000,
		"Again true": 500, "Again false": 1000, "Forget <nil>": 6, "Forget liaison: state": 100,
	}
	for what, n := range least {
		if counts[what] < n {
			t.Errorf("just %d of %s: %v", counts[what], what, counts)
		}
	}
}

// nearly is a message, and such as are the same but for one thing.
func nearly(m api.Message) []api.Message {
	list := []api.Message{m}
	with := func(change func(m *api.Message)) {
		other := m
		change(&other)
		list = append(list, other)
	}
	for n := -1; n < 7; n++ {
		with(func(m *api.Message) { m.From = n })
		with(func(m *api.Message) { m.To = n })
		with(func(m *api.Message) { m.Reg = n })
		with(func(m *api.Message) { m.Act.Node = n })
	}
	for n := -1; n < 9; n++ {
		with(func(m *api.Message) { m.Part = n })
	}
	for n := range 4 {
		with(func(m *api.Message) { m.Protocol, m.Code = n, n })
		// All that hangs on the activity's node, turned at once.
		with(func(m *api.Message) { m.To, m.Act.Node = n, n })
	}
	for _, by := range []int{-2, -1, 1, 1 << 32} {
		with(func(m *api.Message) { m.Act.Seq += by })
		with(func(m *api.Message) { m.Reg += 256 * by })
		with(func(m *api.Message) { m.Part += 256 * by })
		with(func(m *api.Message) { m.From += 256 * by })
	}
	return list
}

// some is one of a list, by dice.
func some(roll func(int) int, list ...int) int {
	return list[roll(len(list))]
}

// thrownStore is a store behind facts by dice: participants, and activities, some of them below participants.
func thrownStore(t *testing.T, roll func(int) int) *store.Store {
	t.Helper()
	s := made(t, roll(4))
	if roll(10) == 0 {
		apply(t, s, facts.Fact{Kind: facts.Opened, Act: api.Act{Node: s.Node(), Seq: 999990 + roll(10)}, Outcome: 1 + roll(2), Expires: 9})
	}
	for range roll(90) {
		act, at := thrownAct(roll, s), thrownPlace(roll)
		a, _ := activity(s, act)
		list := []facts.Fact{
			{Kind: facts.Joined, Part: len(s.Parts()), Act: api.Act{Node: roll(4), Seq: roll(3)}, Protocol: 1 + roll(2)},
			{Kind: facts.Turned, Part: roll(8), State: at.state, How: at.how},
			{Kind: facts.Opened, Act: api.Act{Node: s.Node(), Seq: s.Next() + roll(2)}, Outcome: 1 + roll(2), Depth: roll(4), Expires: float64(some(roll, 9, 9, 3)), Parent: roll(2) * roll(9)},
			{Kind: facts.Enrolled, Act: act, Reg: len(a.Regs), Node: roll(4), Part: roll(3), Protocol: 1 + roll(2)},
			{Kind: facts.Enrolled, Act: act, Reg: len(a.Regs), Node: roll(4), Part: roll(3), Protocol: 1 + roll(2)},
			{Kind: facts.Enrolled, Act: act, Reg: len(a.Regs), Node: roll(4), Part: roll(3), Protocol: 1 + roll(2)},
			{Kind: facts.Seated, Act: act, Reg: thrownReg(roll, s, act), State: at.state, How: at.how},
			{Kind: facts.Seated, Act: act, Reg: thrownReg(roll, s, act), State: at.state, How: at.how},
			{Kind: facts.Forgot, Act: act},
		}
		// What doesn't fit leaves the store as it is.
		_ = s.Apply(list[roll(len(list))])
	}
	for _, a := range s.Activities() {
		if decision := roll(3); decision > 0 {
			_ = s.Apply(facts.Fact{Kind: facts.Decided, Act: a.Context.Act, Decision: decision})
		}
	}
	return s
}

// thrownAct is an activity by dice, such as may be a store's.
func thrownAct(roll func(int) int, s *store.Store) api.Act {
	if list := s.Activities(); len(list) > 0 && roll(4) > 0 {
		return list[roll(len(list))].Context.Act
	}
	return api.Act{Node: some(roll, s.Node(), s.Node(), roll(4)), Seq: max(s.Next()+1-roll(4), 0)}
}

// thrownPlace is a place by dice; one that hasn't ended, mostly.
func thrownPlace(roll func(int) int) place {
	for {
		at := places()[roll(len(places()))]
		if at.state != api.Ended || roll(4) == 0 {
			return at
		}
	}
}

// thrownReg is a registration's number by dice, such as may be an activity's.
func thrownReg(roll func(int) int, s *store.Store, act api.Act) int {
	a, _ := activity(s, act)
	if len(a.Regs) > 0 && roll(6) > 0 {
		return roll(len(a.Regs))
	}
	return roll(8) - 1
}

// thrownMessage is a message by dice, such as may be of a store's registration.
func thrownMessage(roll func(int) int, s *store.Store) api.Message {
	m := api.Message{Kind: some(roll, roll(21), 1+roll(8), 3, 17, 17, 15), From: roll(4), To: some(roll, s.Node(), s.Node(), s.Node(), roll(4)), Act: thrownAct(roll, s), Part: roll(8), Protocol: some(roll, 1, 2, 1, 2, roll(4))}
	a, _ := activity(s, m.Act)
	m.Reg = thrownReg(roll, s, m.Act)
	if r, there := reg(a, m.Reg); there && roll(6) > 0 {
		m.From, m.Part = r.Node, r.Part
	}
	if m.Kind == api.Register {
		m.Reg = roll(2) * roll(2)
	} else if roll(4) > 0 {
		m.Protocol = 0
	}
	if roll(10) == 0 {
		numbers := []*int{&m.Kind, &m.From, &m.To, &m.Act.Node, &m.Act.Seq, &m.Reg, &m.Part, &m.Protocol, &m.Code}
		*numbers[roll(len(numbers))] = strange()[roll(len(strange()))]
	}
	return m
}

// thrownContext is a context by dice, such as may be of a participant's activity.
func thrownContext(roll func(int) int, s *store.Store, number int) api.Context {
	p, _ := part(s, number)
	c := api.Context{Act: p.Act, Outcome: 1 + roll(2), Depth: roll(4), Expires: float64(roll(10))}
	if roll(5) == 0 {
		numbers := []*int{&c.Act.Node, &c.Act.Seq, &c.Outcome, &c.Depth}
		*numbers[roll(4)] = some(roll, strange()...)
	}
	return c
}

// thrownCall is a call by dice: what comes of it, and what it was.
func thrownCall(t *testing.T, roll func(int) int, s *store.Store) (partner.Result, string) {
	t.Helper()
	times := []float64{0, 1, 2, 3, 8, 9, 20, infinity, math.NaN(), -1, minusZero}
	switch roll(14) {
	case 0:
		outcome, now, lasts := some(roll, 1, 2, roll(4)), times[roll(len(times))], times[roll(len(times))]
		err := opens(t, s, outcome, now, lasts)
		r, _, _ := lead.Open(s, outcome, now, lasts)
		return r, fmt.Sprint("Open ", err)
	case 1, 2:
		number := roll(len(s.Parts())+2) - roll(2)
		c := thrownContext(roll, s, number)
		err := nests(t, s, number, c)
		r, _, _ := lead.Nest(s, number, c)
		return r, fmt.Sprint("Nest ", err)
	case 3, 4, 5:
		act, kind := thrownAct(roll, s), some(roll, 2, 9, 10, 11, roll(20))
		number := thrownReg(roll, s, act)
		err := directs(t, s, act, number, kind)
		r, _ := lead.Direct(s, act, number, kind)
		return r, fmt.Sprint("Direct ", err)
	case 6:
		act := thrownAct(roll, s)
		err := forgets(t, s, act)
		r, _ := lead.Forget(s, act)
		return r, fmt.Sprint("Forget ", err)
	case 7:
		return none, fmt.Sprint("Takes ", takes(t, s, thrownAct(roll, s), times[roll(len(times))]))
	case 8:
		act := thrownAct(roll, s)
		return none, fmt.Sprint("Again ", sends(t, s, act, thrownReg(roll, s, act), roll(20)))
	}
	m := thrownMessage(roll, s)
	r := tells(t, s, m, times[some(roll, 0, 1, 2, roll(len(times)))])
	what := fmt.Sprint("Tell ", len(r.Facts), len(r.Send))
	if len(r.Facts) == 1 && r.Facts[0].State == api.Compensating {
		what = "Tell that compensates"
	}
	return r, what
}

// TestThrown is of thrown stores, each of which is told and asked much; what comes of it is known behind it.
func TestThrown(t *testing.T) {
	counts := map[string]int{}
	for round := range 500 {
		roll := dice(uint64(17 + round))
		s := thrownStore(t, roll)
		for range 60 {
			still := stays(t, s)
			r, what := thrownCall(t, roll, s)
			counts[what]++
			still()
			if knowable(r.Facts) && roll(3) > 0 {
				apply(t, s, r.Facts...)
			}
		}
	}
	for what, n := range map[string]int{
		"Open <nil>": 100, "Open liaison: form": 100, "Open liaison: full": 100,
		"Nest <nil>": 100, "Nest liaison: none": 100, "Nest liaison: form": 100, "Nest liaison: state": 100, "Nest liaison: full": 20, "Nest liaison: depth": 50,
		"Direct <nil>": 300, "Direct liaison: none": 100, "Direct liaison: range": 100, "Direct liaison: form": 100, "Direct liaison: state": 100,
		"Forget <nil>": 100, "Forget liaison: none": 100, "Forget liaison: state": 100,
		"Takes true": 100, "Takes false": 100, "Again true": 100, "Again false": 100,
		"Tell 0 0": 1000, "Tell 0 1": 1000, "Tell 1 0": 100, "Tell 1 1": 500, "Tell that compensates": 20,
	} {
		if counts[what] < n {
			t.Errorf("just %d of %s: %v", counts[what], what, counts)
		}
	}
}
