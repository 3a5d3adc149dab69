package lead_test

import (
	"math"
	"testing"

	"liaison/api"
	"liaison/facts"
	"liaison/lead"
	"liaison/letter"
	"liaison/moves"
	"liaison/partner"
	"liaison/store"
)

// Tests by hand of Tell.

// enrolls is the result by which a Register makes a registration.
func enrolls(m api.Message, reg int) partner.Result {
	registered := api.Message{Kind: api.Registered, From: m.To, To: m.From, Act: m.Act, Reg: reg, Part: m.Part, Protocol: m.Protocol}
	return partner.Result{
		Facts: []facts.Fact{{Kind: facts.Enrolled, Act: m.Act, Reg: reg, Node: m.From, Part: m.Part, Protocol: m.Protocol}},
		Send:  []api.Message{registered},
	}
}

// faults is the result that is a Fault of a code to a message alone.
func faults(m api.Message, code int) partner.Result {
	return just(api.Message{Kind: api.Fault, From: m.To, To: m.From, Act: m.Act, Reg: m.Reg, Part: m.Part, Code: code})
}

func TestTellRegister(t *testing.T) {
	for _, outcome := range []int{api.Atomic, api.Mixed} {
		s := made(t, 1, opened(0, outcome))
		// The same participant's number at other nodes, its own node's too, and other numbers.
		for i, m := range []api.Message{register(2, 3, api.PC), register(3, 3, api.CC), register(1, 3, api.CC), register(2, 4, api.CC), register(0, 0, api.PC), register(3, 7, api.PC)} {
			for _, now := range []float64{9, infinity, math.NaN(), -1} {
				toldAt(t, "Register, when it isn't open", s, m, now, faults(m, api.CannotRegister))
			}
			toldAt(t, "Register", s, m, math.Nextafter(9, 0), enrolls(m, i))
			toldAt(t, "Register", s, m, minusZero, enrolls(m, i))
			apply(t, s, enrolls(m, i).Facts...)
			for _, now := range []float64{0, 9, infinity, math.NaN(), -1} {
				toldAt(t, "Register again", s, m, now, just(enrolls(m, i).Send...))
				other := m
				for _, other.Protocol = range []int{3 - m.Protocol, 0, 3, -1, m.Protocol + 1<<32} {
					toldAt(t, "Register again, by another protocol", s, other, now, faults(other, api.InvalidProtocol))
				}
			}
		}
		more := register(0, 1, api.PC)
		told(t, "Register of the seventh", s, more, faults(more, api.CannotRegister))
		for reg := range 6 {
			apply(t, s, seated(0, reg, api.Ended, api.Exit))
		}
		told(t, "Register of the seventh, where all have ended", s, more, faults(more, api.CannotRegister))
		told(t, "Register again of one that has ended", s, register(3, 3, api.CC), just(enrolls(register(3, 3, api.CC), 1).Send...))
	}
	for _, decision := range []int{1, 2} {
		s := one(t, api.Atomic, api.CC, api.Completed)
		apply(t, s, decided(0, decision))
		told(t, "Register, where it is decided", s, register(2, 3, api.PC), faults(register(2, 3, api.PC), api.CannotRegister))
		told(t, "Register again, where it is decided", s, register(3, 5, api.CC), just(enrolls(register(3, 5, api.CC), 1).Send...))
	}
}

// TestTellRegisterUnknown is of an activity that isn't there: that one was there before counts for nothing.
func TestTellRegisterUnknown(t *testing.T) {
	s := made(t, 1, opened(0, api.Atomic), forgot(0), opened(2, api.Mixed))
	for _, act := range []api.Act{own(0), own(1), own(3), own(-1), own(1000000), {Node: 2, Seq: 2}, {Node: -1, Seq: 2}, {Node: 4, Seq: 2}} {
		for _, protocol := range []int{api.PC, api.CC, 0} {
			m := register(2, 3, protocol)
			m.Act = act
			for _, now := range []float64{0, 9, math.NaN()} {
				toldAt(t, "Register for none", s, m, now, faults(m, api.UnknownActivity))
			}
		}
	}
}

// TestTellWrongRegister is of a Register that isn't right: the chapter asks no more of it than whether there is the activity, and it takes registrations.
func TestTellWrongRegister(t *testing.T) {
	for _, n := range append(strange(), 0, 3) {
		for place := range 5 {
			s := one(t, api.Mixed, api.CC, api.Active)
			m := register(0, 2, api.PC)
			*[]*int{&m.From, &m.Part, &m.Protocol, &m.Reg, &m.Code}[place] = n
			told(t, "a Register that isn't right", s, m, enrolls(m, 3))
			apply(t, s, crowd(s, 3)...)
			told(t, "a Register that isn't right, where there are enough", s, m, faults(m, api.CannotRegister))
		}
	}
	s := one(t, api.Atomic, api.CC, api.Active)
	m := register(3, 5, api.CC)
	m.Reg, m.Code = 4, 7
	told(t, "Register again that isn't right", s, m, just(enrolls(m, 1).Send...))
	m.Protocol = 0
	told(t, "Register again by no protocol", s, m, faults(m, api.InvalidProtocol))
}

// crowd is facts by which a store's activity 0 has a count more of registrations, of other participants.
func crowd(s *store.Store, count int) []facts.Fact {
	a, _ := activity(s, own(0))
	var list []facts.Fact
	for i := range count {
		list = append(list, enrolled(0, len(a.Regs)+i, 1, 7-i, api.PC))
	}
	return list
}

// TestTellUp is of a kind that goes Up, in states where there comes something else of it each time.
func TestTellUp(t *testing.T) {
	for _, c := range []struct {
		protocol, state, kind int
		next, how             int // the fact; next 0: none
		send, fault           int
	}{
		{protocol: api.PC, state: api.Active, kind: api.Exit, next: api.Ended, how: api.Exit, send: api.Exited},
		{protocol: api.CC, state: api.CancelingCompleting, kind: api.Exit, next: api.Ended, how: api.Exit, send: api.Exited},
		{protocol: api.CC, state: api.Completing, kind: api.CannotComplete, next: api.Ended, how: api.CannotComplete, send: api.NotCompleted},
		{protocol: api.PC, state: api.Canceling, kind: api.Fail, next: api.Ended, how: api.Fail, send: api.Failed},
		{protocol: api.PC, state: api.Compensating, kind: api.Fail, next: api.Ended, how: api.Fail, send: api.Failed},
		{protocol: api.PC, state: api.Active, kind: api.IsCompleted, next: api.Completed},
		{protocol: api.PC, state: api.Canceling, kind: api.IsCompleted, next: api.Completed},
		{protocol: api.CC, state: api.Completing, kind: api.IsCompleted, next: api.Completed},
		{protocol: api.CC, state: api.CancelingCompleting, kind: api.IsCompleted, next: api.Completed},
		{protocol: api.CC, state: api.Active, kind: api.IsCompleted, fault: api.InvalidState},
		{protocol: api.PC, state: api.Completed, kind: api.IsCompleted},
		{protocol: api.PC, state: api.Closing, kind: api.IsCompleted, send: api.Close},
		{protocol: api.CC, state: api.Compensating, kind: api.IsCompleted, send: api.Compensate},
		{protocol: api.PC, state: api.Completed, kind: api.Exit, fault: api.InvalidState},
		{protocol: api.PC, state: api.Canceling, kind: api.Canceled, next: api.Ended, how: api.Canceled},
		{protocol: api.CC, state: api.CancelingCompleting, kind: api.Canceled, next: api.Ended, how: api.Canceled},
		{protocol: api.PC, state: api.Closing, kind: api.Closed, next: api.Ended, how: api.Closed},
		{protocol: api.CC, state: api.Compensating, kind: api.Compensated, next: api.Ended, how: api.Compensated},
		{protocol: api.PC, state: api.Closing, kind: api.Compensated, fault: api.InvalidState},
		{protocol: api.PC, state: api.FailingActive, kind: api.Fail},
		{protocol: api.PC, state: api.Exiting, kind: api.Fail, fault: api.InvalidState},
	} {
		want := partner.Result{}
		if c.next != 0 {
			want.Facts = []facts.Fact{seated(0, 1, c.next, c.how)}
		}
		if c.send != 0 {
			want.Send = []api.Message{to(c.send)}
		}
		if c.fault != 0 {
			want.Send = []api.Message{coded(to(api.Fault), c.fault)}
		}
		for _, now := range []float64{0, 9, infinity, math.NaN()} {
			toldAt(t, "an Atomic one", one(t, api.Atomic, c.protocol, c.state), from(c.kind), now, want)
			toldAt(t, "a Mixed one", one(t, api.Mixed, c.protocol, c.state), from(c.kind), now, want)
		}
		s := one(t, api.Atomic, c.protocol, c.state)
		apply(t, s, decided(0, 1))
		told(t, "one that closes", s, from(c.kind), want)
		if c.next != api.Completed {
			s := one(t, api.Atomic, c.protocol, c.state)
			apply(t, s, decided(0, 2))
			told(t, "one that cancels", s, from(c.kind), want)
		}
	}
	s := one(t, api.Mixed, api.PC, api.Active)
	apply(t, s, seated(0, 1, api.Ended, api.Canceled))
	told(t, "one that has ended", s, from(api.Exit), just(to(api.Exited)))
	told(t, "one that has ended", s, from(api.Fail), just(to(api.Failed)))
	told(t, "one that has ended", s, from(api.CannotComplete), just(to(api.NotCompleted)))
	for _, kind := range []int{api.IsCompleted, api.Canceled, api.Closed, api.Compensated} {
		told(t, "one that has ended", s, from(kind), none)
	}
}

// TestTellCompensatesAtOnce is of a seat that comes to be Completed where it is decided to cancel.
func TestTellCompensatesAtOnce(t *testing.T) {
	for _, c := range []struct{ protocol, state int }{{api.PC, api.Active}, {api.PC, api.Canceling}, {api.CC, api.Completing}, {api.CC, api.CancelingCompleting}} {
		s := one(t, api.Atomic, c.protocol, c.state)
		apply(t, s, decided(0, 2))
		told(t, "IsCompleted", s, from(api.IsCompleted), partner.Result{Facts: []facts.Fact{seated(0, 1, api.Compensating, 0)}, Send: []api.Message{to(api.Compensate)}})
		apply(t, s, seated(0, 1, api.Compensating, 0))
		told(t, "IsCompleted again", s, from(api.IsCompleted), just(to(api.Compensate)))
	}
	// One that was Completed before hasn't come to be it.
	for _, protocol := range []int{api.PC, api.CC} {
		s := one(t, api.Atomic, protocol, api.Completed)
		apply(t, s, decided(0, 2))
		told(t, "IsCompleted of one that is Completed", s, from(api.IsCompleted), none)
		told(t, "Exit of one that is Completed", s, from(api.Exit), just(coded(to(api.Fault), api.InvalidState)))
	}
}

func TestTellGetStatus(t *testing.T) {
	for state := api.Active; state < api.Ended; state++ {
		for _, outcome := range []int{api.Atomic, api.Mixed} {
			s := one(t, outcome, api.CC, state)
			toldAt(t, "GetStatus", s, from(api.GetStatus), math.NaN(), just(coded(to(api.Status), state)))
			if outcome == api.Atomic {
				apply(t, s, decided(0, 2))
				told(t, "GetStatus of one that cancels", s, from(api.GetStatus), just(coded(to(api.Status), state)))
			}
			apply(t, s, seated(0, 1, api.Ended, api.Fail))
			told(t, "GetStatus of one that has ended", s, from(api.GetStatus), just(coded(to(api.Status), api.Ended)))
		}
	}
}

// ups is the kinds that go Up, and what is answered where an activity was there, and is forgotten: 0 nothing.
var ups = []struct{ kind, again int }{
	{api.Exit, api.Exited}, {api.IsCompleted, 0}, {api.Fail, api.Failed}, {api.CannotComplete, api.NotCompleted},
	{api.Canceled, 0}, {api.Closed, 0}, {api.Compensated, 0},
}

// TestTellGone is of an activity that isn't there: one that was, and one that never was.
func TestTellGone(t *testing.T) {
	s := made(t, 1, opened(0, api.Atomic), opened(3, api.Mixed), forgot(0), opened(5, api.Mixed), forgot(5))
	for _, reg := range []int{0, 1, 5, -1, 6, 1 << 40} {
		for _, who := range [][2]int{{3, 5}, {1, 0}, {-1, 9}} {
			of := func(kind, node, seq int) api.Message {
				return api.Message{Kind: kind, From: who[0], To: 1, Act: api.Act{Node: node, Seq: seq}, Reg: reg, Part: who[1]}
			}
			back := func(kind, code, seq int) partner.Result {
				return just(api.Message{Kind: kind, From: 1, To: who[0], Act: own(seq), Reg: reg, Part: who[1], Code: code})
			}
			for _, seq := range []int{0, 1, 2, 4, 5} {
				for _, c := range ups {
					want := none
					if c.again != 0 {
						want = back(c.again, 0, seq)
					}
					told(t, "a kind, of one that is gone", s, of(c.kind, 1, seq), want)
				}
				told(t, "GetStatus, of one that is gone", s, of(api.GetStatus, 1, seq), back(api.Status, api.Ended, seq))
			}
			for _, c := range append(ups, struct{ kind, again int }{api.GetStatus, 0}) {
				for _, seq := range []int{-1, 6, 7, 999999, 1000000, math.MinInt, math.MaxInt} {
					m := of(c.kind, 1, seq)
					told(t, "one that never was", s, m, faults(m, api.UnknownActivity))
				}
				for _, node := range []int{0, 2, 3, -1, 4, 1 + 1<<32} {
					for _, seq := range []int{0, 3, 5} {
						m := of(c.kind, node, seq)
						told(t, "another node's", s, m, faults(m, api.UnknownActivity))
					}
				}
			}
		}
	}
	fresh := made(t, 1)
	told(t, "the first one, ahead of it", fresh, from(api.Exit), faults(from(api.Exit), api.UnknownActivity))
}

// TestTellWhatDoesntFit is of messages that are a registration's but for one thing.
func TestTellWhatDoesntFit(t *testing.T) {
	s := one(t, api.Mixed, api.PC, api.Active)
	kinds := append(ups, struct{ kind, again int }{api.GetStatus, 0})
	for _, c := range kinds {
		for _, change := range []func(m *api.Message){
			func(m *api.Message) { m.From = 2 }, func(m *api.Message) { m.From = 1 }, func(m *api.Message) { m.From = -1 }, func(m *api.Message) { m.From += 1 << 32 },
			func(m *api.Message) { m.Part = 4 }, func(m *api.Message) { m.Part = 0 }, func(m *api.Message) { m.Part = -1 }, func(m *api.Message) { m.Part += 256 },
			func(m *api.Message) { m.Reg = 0 }, func(m *api.Message) { m.Reg = 2 }, func(m *api.Message) { m.Reg = 3 }, func(m *api.Message) { m.Reg = -1 },
			func(m *api.Message) { m.Reg = 6 }, func(m *api.Message) { m.Reg = math.MaxInt }, func(m *api.Message) { m.Reg = math.MinInt }, func(m *api.Message) { m.Reg += 1 << 32 },
			func(m *api.Message) { m.From, m.Reg = 2, 0 }, func(m *api.Message) { m.From, m.Part, m.Reg = 0, 0, 3 }, func(m *api.Message) { m.From, m.Part, m.Reg = 0, 0, -1 },
		} {
			m := from(c.kind)
			change(&m)
			told(t, "a message of another one", s, m, faults(m, api.InvalidParameters))
		}
		empty := made(t, 1, opened(0, api.Atomic))
		for _, reg := range []int{0, -1, 1} {
			m := from(c.kind)
			m.Reg = reg
			told(t, "no registrations", empty, m, faults(m, api.InvalidParameters))
			m.From, m.Part = 0, 0
			told(t, "no registrations", empty, m, faults(m, api.InvalidParameters))
		}
		// Code and Protocol aren't asked.
		m := from(c.kind)
		m.Code, m.Protocol = 3, 2
		tells(t, s, m, 1)
		plain, strange := lead.Tell(s, from(c.kind), 1), lead.Tell(s, m, 1)
		answers(t, "a code, and a protocol", strange, plain)
	}
}

// TestTellNothing is of kinds of which nothing comes, and of messages to another node.
func TestTellNothing(t *testing.T) {
	stores := []*store.Store{made(t, 1), made(t, 1, opened(0, api.Atomic), forgot(0)), made(t, 1, opened(0, api.Mixed)), one(t, api.Atomic, api.CC, api.Completing)}
	for _, s := range stores {
		for kind := -3; kind < 30; kind++ {
			m := from(kind)
			m.Protocol = api.CC
			if kind != api.Register && kind != api.GetStatus && !letter.Up(kind) {
				told(t, "a kind of which nothing comes", s, m, none)
			}
			for _, to := range append(strange(), 0, 2, 3) {
				m.To = to
				told(t, "a message to another node", s, m, none)
			}
		}
		for _, kind := range strange() {
			if kind > 19 || kind < 0 {
				told(t, "no kind", s, from(kind), none)
			}
		}
	}
}

// TestOtherNodes is of all nodes: what is sent goes from the activity's.
func TestOtherNodes(t *testing.T) {
	for node := range 4 {
		act := api.Act{Node: node, Seq: 999999}
		s := made(t, node, facts.Fact{Kind: facts.Opened, Act: act, Outcome: api.Mixed, Expires: infinity})
		for from := range 4 {
			m := api.Message{Kind: api.Register, From: from, To: node, Act: act, Part: 7 - from, Protocol: api.PC}
			told(t, "Register", s, m, enrolls(m, from))
			apply(t, s, enrolls(m, from).Facts...)
			m = api.Message{Kind: api.Exit, From: from, To: node, Act: act, Reg: from, Part: 7 - from}
			told(t, "Exit", s, m, partner.Result{
				Facts: []facts.Fact{{Kind: facts.Seated, Act: act, Reg: from, State: api.Ended, How: api.Exit}},
				Send:  []api.Message{{Kind: api.Exited, From: node, To: from, Act: act, Reg: from, Part: 7 - from}},
			})
			if err := directs(t, s, act, from, api.Cancel); err != nil {
				t.Errorf("Direct answers %v", err)
			}
		}
	}
}

// TestNoStore is of a store that is nil: nothing panics, and nothing is known.
func TestNoStore(t *testing.T) {
	notOpened(t, "nil", nil, api.Atomic, 0, 9, api.ErrPanic)
	notNested(t, "nil", nil, 0, context(api.Atomic, 0, 9), api.ErrNone)
	notNested(t, "nil", nil, -1, api.Context{}, api.ErrNone)
	undirected(t, "nil", nil, own(0), 0, api.Complete, api.ErrNone)
	forgotten(t, "nil", nil, own(0), api.ErrNone)
	for kind := -1; kind < 21; kind++ {
		for node := -1; node < 4; node++ {
			answers(t, "nil", lead.Tell(nil, api.Message{Kind: kind, To: node, Act: api.Act{Node: node}}, 1), none)
		}
		if m, there := lead.Message(nil, own(0), 0, kind); m != (api.Message{}) || there {
			t.Errorf("Message answers %+v, %v", m, there)
		}
	}
	if m, there := lead.Again(nil, own(0), 0); m != (api.Message{}) || there {
		t.Errorf("Again answers %+v, %v", m, there)
	}
	if lead.Takes(nil, own(0), 0) {
		t.Error("Takes answers true")
	}
}

// TestAnswersAreTheCallers changes what was answered, and asks again.
func TestAnswersAreTheCallers(t *testing.T) {
	s := one(t, api.Mixed, api.CC, api.Completed)
	apply(t, s, joined(0, api.PC), opened(1, api.Mixed), opened(2, api.Mixed), forgot(2))
	of := func(seq, kind int) api.Message {
		m := from(kind)
		m.Act.Seq = seq
		return m
	}
	for what, ask := range map[string]func() partner.Result{
		"Open":           func() partner.Result { r, _, _ := lead.Open(s, api.Atomic, 0, 9); return r },
		"Nest":           func() partner.Result { r, _, _ := lead.Nest(s, 0, context(api.Atomic, 1, 9)); return r },
		"Direct":         func() partner.Result { r, _ := lead.Direct(s, own(0), 1, api.Close); return r },
		"Forget":         func() partner.Result { r, _ := lead.Forget(s, own(1)); return r },
		"Register":       func() partner.Result { return lead.Tell(s, register(2, 3, api.PC), 1) },
		"Register again": func() partner.Result { return lead.Tell(s, register(3, 5, api.CC), 1) },
		"GetStatus":      func() partner.Result { return lead.Tell(s, from(api.GetStatus), 1) },
		"Fault":          func() partner.Result { return lead.Tell(s, from(api.Exit), 1) },
		"gone":           func() partner.Result { return lead.Tell(s, of(2, api.Exit), 1) },
	} {
		first := ask()
		was, knew := text(first), knows(s)
		if len(first.Facts)+len(first.Send) == 0 {
			t.Errorf("%s answers nothing", what)
		}
		for i := range first.Facts {
			first.Facts[i] = facts.Fact{Kind: 99}
		}
		for i := range first.Send {
			first.Send[i] = api.Message{Kind: 99}
		}
		if second := ask(); text(second) != was || knows(s) != knew {
			t.Errorf("%s answers %s behind a change of %s", what, text(second), was)
		}
	}
}

// TestWork is of what the application has to do, which a coordinator's has nothing of.
func TestWork(t *testing.T) {
	for _, protocol := range []int{api.PC, api.CC} {
		for state := api.Active; state < api.Ended; state++ {
			if seat := (moves.Seat{Protocol: protocol, Side: api.Coordinator, State: state}); !seat.Right() {
				continue
			}
			for kind := range 20 {
				s := one(t, api.Mixed, protocol, state)
				if r := lead.Tell(s, from(kind), 1); r.Work != 0 {
					t.Errorf("Tell of kind %d in state %d answers the work %d", kind, state, r.Work)
				}
				if r, _ := lead.Direct(s, own(0), 1, kind); r.Work != 0 {
					t.Errorf("Direct of kind %d in state %d answers the work %d", kind, state, r.Work)
				}
			}
		}
	}
}
