package partner_test

import (
	"fmt"
	"math"
	"slices"
	"testing"

	"liaison/api"
	"liaison/facts"
	"liaison/letter"
	"liaison/moves"
	"liaison/partner"
	"liaison/store"
)

// Tests of all places of a participant, of thrown stores, and of what both sides say to each other.

// place is where a participant stands: its seat, and its registration.
type place struct {
	protocol, state, how, reg int
}

// places is all places of a participant, placed nowhere, or as each registration.
func places() []place {
	var list []place
	for _, protocol := range []int{api.PC, api.CC} {
		for state := api.Active; state <= api.Ended; state++ {
			for how := range 9 {
				seat := moves.Seat{Protocol: protocol, Side: api.Participant, State: state, How: how}
				for reg := -1; reg < 6 && seat.Right(); reg++ {
					list = append(list, place{protocol, state, how, reg})
				}
			}
		}
	}
	return list
}

// stand is a store of a node whose participants but for one are Active, and not placed; that one stands at a place. Those are of activities that are nearly this one.
func stand(t *testing.T, node, number int, act api.Act, at place) *store.Store {
	t.Helper()
	s := made(t, node)
	for i := range number {
		apply(t, s, joined(i, api.Act{Node: (act.Node + i) % 4, Seq: act.Seq + 1}, api.PC))
	}
	apply(t, s, joined(number, act, at.protocol))
	if at.reg >= 0 {
		apply(t, s, placed(number, at.reg))
	}
	apply(t, s, turned(number, at.state, at.how))
	return s
}

// TestAllPlaces is of each place of a participant: of messages that fit, or not for one thing, and of kinds that it does.
func TestAllPlaces(t *testing.T) {
	counts := map[string]int{}
	for i, at := range places() {
		number, act := i%8, api.Act{Node: []int{2, 1, 0, 3}[i%4], Seq: i}
		s := stand(t, 1, number, act, at)
		still := stays(t, s)
		for kind := -2; kind < 22; kind++ {
			for _, m := range nearly(s, api.Message{Kind: kind, From: act.Node, To: 1, Act: act, Reg: max(at.reg, 0), Part: number}) {
				r := tells(t, s, m)
				counts[fmt.Sprint("Tell ", len(r.Facts), len(r.Send), r.Work != 0)]++
			}
			for other := -1; other < number+2; other++ {
				counts[fmt.Sprint("Do ", does(t, s, other, kind))]++
			}
		}
		for other := -1; other < number+2; other++ {
			counts[fmt.Sprint("Again ", sends(t, s, other))]++
		}
		still()
	}
	least := map[string]int{
		"Tell 0 0 false": 1000, "Tell 1 0 false": 1000, "Tell 2 0 false": 20, "Tell 0 1 false": 1000, "Tell 1 1 false": 100, "Tell 1 0 true": 30, "Tell 2 0 true": 30,
		"Do true": 126, "Do false": 10000, "Again true": 400, "Again false": 400,
	}
	for what, n := range least {
		if counts[what] < n {
			t.Errorf("just %d of %s: %v", counts[what], what, counts)
		}
	}
}

// nearly is a message, and such as are the same but for one thing.
func nearly(s *store.Store, m api.Message) []api.Message {
	list := []api.Message{m}
	with := func(change func(m *api.Message)) {
		other := m
		change(&other)
		list = append(list, other)
	}
	for n := -1; n < 7; n++ {
		with(func(m *api.Message) { m.From = n })
		with(func(m *api.Message) { m.To = n })
		with(func(m *api.Message) { m.Reg = n })
		with(func(m *api.Message) { m.Act.Node = n })
		with(func(m *api.Message) { m.Code = n })
	}
	for n := -1; n < 9; n++ {
		with(func(m *api.Message) { m.Part = n })
	}
	for n := range 4 {
		// All that hangs on the activity's node, turned at once.
		with(func(m *api.Message) { m.From, m.Act.Node = n, n })
		with(func(m *api.Message) { m.From, m.To = n, s.Node() })
		with(func(m *api.Message) { m.Protocol = n })
	}
	for _, by := range []int{-1, 1, 1 << 32} {
		with(func(m *api.Message) { m.Act.Seq += by })
		with(func(m *api.Message) { m.Reg += 256 * by })
		with(func(m *api.Message) { m.Part += 256 * by })
		with(func(m *api.Message) { m.From += 256 * by })
	}
	return list
}

// some is one of a list, by dice.
func some(roll func(int) int, list ...int) int {
	return list[roll(len(list))]
}

// thrownStore is a store behind facts by dice: participants, and activities, some of them below participants.
func thrownStore(t *testing.T, roll func(int) int) *store.Store {
	t.Helper()
	s := made(t, roll(4))
	for range roll(40) {
		act := api.Act{Node: some(roll, s.Node(), roll(4)), Seq: roll(3)}
		part, at := roll(len(s.Parts())+1), places()[roll(len(places()))]
		list := []facts.Fact{
			joined(len(s.Parts()), act, 1+roll(2)), placed(part, roll(6)), turned(part, at.state, at.how), turned(part, at.state, at.how),
			{Kind: facts.Opened, Act: api.Act{Node: s.Node(), Seq: s.Next()}, Outcome: 1 + roll(2), Expires: 9, Parent: some(roll, 0, part)},
			{Kind: facts.Enrolled, Act: act, Reg: roll(2), Node: roll(4), Part: roll(8), Protocol: 1 + roll(2)},
			{Kind: facts.Seated, Act: act, Reg: roll(2), State: at.state, How: at.how},
			{Kind: facts.Decided, Act: act, Decision: 1 + roll(2)},
		}
		// What doesn't fit leaves the store as it is.
		_ = s.Apply(list[roll(len(list))])
	}
	return s
}

// thrownMessage is a message by dice, such as may fit a store.
func thrownMessage(roll func(int) int, s *store.Store) api.Message {
	m := api.Message{Kind: roll(21), From: roll(4), To: some(roll, s.Node(), s.Node(), roll(4)), Act: api.Act{Node: roll(4), Seq: roll(3)}, Reg: roll(6), Part: roll(8), Code: roll(6), Protocol: roll(3)}
	if number := roll(len(s.Parts()) + 1); number < len(s.Parts()) && roll(8) > 0 {
		p := s.Parts()[number]
		m.Part, m.Act, m.From = number, p.Act, p.Act.Node
		if p.Reg >= 0 && roll(4) > 0 {
			m.Reg = p.Reg
		}
	}
	if roll(10) == 0 {
		numbers := []*int{&m.Kind, &m.From, &m.To, &m.Act.Node, &m.Act.Seq, &m.Reg, &m.Part, &m.Code}
		*numbers[roll(len(numbers))] = strange()[roll(len(strange()))]
	}
	return m
}

// TestThrown is of thrown stores, each of which is told, joined and done much; what comes of it is known behind it.
func TestThrown(t *testing.T) {
	counts := map[string]int{}
	for round := range 600 {
		roll := dice(uint64(16 + round))
		s := thrownStore(t, roll)
		for range 60 {
			still := stays(t, s)
			var r partner.Result
			switch roll(10) {
			case 0:
				c := api.Context{Act: api.Act{Node: roll(4), Seq: roll(3)}, Outcome: roll(4), Depth: roll(5), Expires: float64(roll(10))}
				protocol, now := roll(4), float64(roll(10))
				if joins(t, s, c, protocol, now) == nil {
					r, _ = partner.Join(s, c, protocol, now)
					counts["Join"]++
				}
			case 1, 2, 3:
				number, kind := roll(9), 1+roll(8)
				if does(t, s, number, kind) {
					r, _ = partner.Do(s, number, kind)
					counts["Do"]++
				}
			default:
				r = tells(t, s, thrownMessage(roll, s))
				counts[fmt.Sprint("Tell ", len(r.Facts), len(r.Send))]++
			}
			for number := -1; number < 9; number++ {
				sends(t, s, number)
			}
			still()
			if knowable(r.Facts) {
				apply(t, s, r.Facts...)
			}
		}
	}
	for _, what := range []string{"Join", "Do", "Tell 0 0", "Tell 0 1", "Tell 1 0", "Tell 1 1", "Tell 2 0"} {
		if counts[what] < 100 {
			t.Errorf("just %d of %s: %v", counts[what], what, counts)
		}
	}
}

// TestJoinThrown is of contexts, protocols and times, right or nearly so, at each count of participants.
func TestJoinThrown(t *testing.T) {
	roll := dice(160)
	counts := map[error]int{}
	times := []float64{0, minusZero, 5e-324, 1, 5, math.Nextafter(5, 6), 1e300, math.MaxFloat64, infinity, math.NaN(), -1, math.Inf(-1)}
	s := made(t, 2)
	for i := range 9 {
		for range 6000 {
			c := api.Context{Act: api.Act{Node: roll(5), Seq: some(roll, roll(1000000), 999999, 1000000, -1)}, Outcome: some(roll, 1, 2, 2, 1, roll(5)), Depth: some(roll, 0, 1, 2, 3, 4), Expires: times[roll(len(times))]}
			counts[joins(t, s, c, some(roll, 1, 2, 1, 2, roll(5)-1), times[roll(len(times))])]++
		}
		if i < 8 {
			apply(t, s, joined(i, far, api.CC))
		}
	}
	for _, err := range []error{nil, api.ErrForm, api.ErrExpired, api.ErrFull} {
		if counts[err] < 200 {
			t.Errorf("just %d answers were %v", counts[err], err)
		}
	}
}

// talk is a participant's store, a coordinator's seat, whether that one is registered for, and all that is on its way between them.
type talk struct {
	t          *testing.T
	roll       func(int) int
	s          *store.Store
	seat       moves.Seat
	registered bool
	way        []api.Message
}

// send fails if a message isn't right.
func (k *talk) send(list ...api.Message) {
	for _, m := range list {
		if !letter.Right(m) {
			k.t.Fatalf("%+v is sent, which isn't right", m)
		}
		k.way = append(k.way, m)
	}
}

// take is what a node does with a result.
func (k *talk) take(r partner.Result) {
	apply(k.t, k.s, r.Facts...)
	k.send(r.Send...)
}

// sits is what the coordinator does with what comes of its seat.
func (k *talk) sits(e moves.Effect, err error) {
	if err != nil {
		return
	}
	k.seat = e.Seat
	if e.Send != 0 {
		k.send(to(e.Send))
	}
}

// deliver lets a message come to where it goes.
func (k *talk) deliver(m api.Message) {
	switch {
	case partner.Asked(k.s, m):
		k.take(tells(k.t, k.s, m))
	case m.Kind == api.Register:
		k.registered = true
		k.send(api.Message{Kind: api.Registered, From: 2, To: 1, Act: far, Reg: 3, Protocol: m.Protocol})
	default:
		k.sits(k.seat.Tell(m.Kind))
	}
}

// arrive lets something that is on its way be delivered, and maybe once more, or be lost.
func (k *talk) arrive() {
	if len(k.way) == 0 {
		return
	}
	at := k.roll(len(k.way))
	m, fate := k.way[at], k.roll(6)
	if fate > 0 {
		k.way = slices.Delete(k.way, at, at+1)
	}
	if fate != 1 {
		k.deliver(m)
	}
}

// step is something that happens, by dice.
func (k *talk) step() {
	switch k.roll(5) {
	case 0:
		if r, err := partner.Do(k.s, 0, some(k.roll, 1, 3, 3, 3, 4, 5, 6, 7, 8)); err == nil {
			k.take(r)
		}
	case 1:
		if m, there := partner.Again(k.s, 0); there {
			k.send(m)
		}
	case 2:
		if k.registered {
			k.sits(k.seat.Do(some(k.roll, 2, 9, 10, 11)))
		}
		if kind := k.seat.Waits(); kind != 0 {
			k.send(to(kind))
		}
	default:
		k.arrive()
	}
}

// TestTalk is of both sides that say all to each other: lost, copied, turned. All that is sent is right, all facts fit, the participant is placed once, and comes to every end.
func TestTalk(t *testing.T) {
	ends := map[int]int{}
	for round := range 4000 {
		protocol := 1 + round%2
		k := &talk{t: t, roll: dice(uint64(1600 + round)), s: parts(t, protocol), seat: moves.Seat{Protocol: protocol, Side: api.Coordinator, State: api.Active}}
		for range 120 {
			was := mustPart(t, k.s, 0)
			k.step()
			if now := mustPart(t, k.s, 0); now.Reg != was.Reg && (was.Reg != -1 || now.Reg != 3) {
				t.Fatalf("the participant is placed as %d, behind %d", now.Reg, was.Reg)
			}
		}
		if p := mustPart(t, k.s, 0); p.Seat.State == api.Ended {
			ends[p.Seat.How]++
		}
	}
	for _, how := range []int{api.Exit, api.Fail, api.CannotComplete, api.Canceled, api.Closed, api.Compensated} {
		if ends[how] < 100 {
			t.Errorf("just %d ended by %d: %v", ends[how], how, ends)
		}
	}
}
