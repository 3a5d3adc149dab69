package lead_test

import (
	"slices"
	"testing"

	"liaison/api"
	"liaison/facts"
	"liaison/lead"
	"liaison/letter"
	"liaison/moves"
	"liaison/partner"
	"liaison/store"
)

// Tests of coordinators and participants that say all to each other: lost, copied, turned, and with stores that are made anew of their facts.

// talk is nodes' stores, the time, the contexts of all activities that were opened, and all that is on its way.
type talk struct {
	t        *testing.T
	roll     func(int) int
	nodes    [3]*store.Store
	now      float64
	contexts []api.Context
	way      [][]byte
}

func newTalk(t *testing.T, seed uint64) *talk {
	k := &talk{t: t, roll: dice(seed)}
	for node := range k.nodes {
		k.nodes[node] = made(t, node)
	}
	return k
}

// take is what a node does with a result: no seat is moved twice, all facts fit, and all that is sent has bytes.
func (k *talk) take(node int, r partner.Result) {
	k.t.Helper()
	seen := map[[3]int]bool{}
	for _, f := range r.Facts {
		if f.Kind == facts.Seated || f.Kind == facts.Turned {
			which := [3]int{f.Kind, f.Act.Seq, f.Reg + f.Part}
			if seen[which] {
				k.t.Fatalf("of %s a seat is moved twice", text(r))
			}
			seen[which] = true
		}
	}
	apply(k.t, k.nodes[node], r.Facts...)
	for _, m := range r.Send {
		b, err := letter.Encode(m)
		if err != nil || m.From != node {
			k.t.Fatalf("node %d sends %+v, which isn't right: %v", node, m, err)
		}
		k.way = append(k.way, b)
	}
}

// deliver lets bytes come to where they go.
func (k *talk) deliver(b []byte) {
	k.t.Helper()
	m, err := letter.Decode(b)
	if err != nil {
		k.t.Fatal(err)
	}
	s := k.nodes[m.To]
	if partner.Asked(s, m) {
		k.take(m.To, partner.Tell(s, m))
	} else {
		k.take(m.To, tells(k.t, s, m, k.now))
	}
}

// arrive lets something that is on its way be delivered, and maybe once more, or be lost.
func (k *talk) arrive() {
	if len(k.way) == 0 {
		return
	}
	at := k.roll(len(k.way))
	b, fate := k.way[at], k.roll(8)
	if fate > 0 || len(k.way) > 100 {
		k.way = slices.Delete(k.way, at, at+1)
	}
	if fate != 1 {
		k.deliver(b)
	}
}

// open opens an activity at a node.
func (k *talk) open() {
	node := k.roll(3)
	r, c, err := lead.Open(k.nodes[node], 1+k.roll(2), k.now, float64(1+k.roll(20)))
	if err == nil {
		k.take(node, r)
		k.contexts = append(k.contexts, c)
	}
}

// join lets a participant of a node join an activity.
func (k *talk) join() {
	if len(k.contexts) == 0 {
		return
	}
	node := k.roll(3)
	if r, err := partner.Join(k.nodes[node], k.contexts[k.roll(len(k.contexts))], 1+k.roll(2), k.now); err == nil {
		k.take(node, r)
	}
}

// do lets a participant do a kind.
func (k *talk) do(node, number, kind int) {
	if r, err := partner.Do(k.nodes[node], number, kind); err == nil {
		k.take(node, r)
	}
}

// direct directs a registration.
func (k *talk) direct(node int, act api.Act, reg, kind int) {
	if r, err := lead.Direct(k.nodes[node], act, reg, kind); err == nil {
		k.take(node, r)
	}
}

// forget forgets an activity, if that may be.
func (k *talk) forget(node int, act api.Act) {
	if r, err := lead.Forget(k.nodes[node], act); err == nil {
		k.take(node, r)
	}
}

// again lets both sides of a node send again what they wait with.
func (k *talk) again(node int) {
	s := k.nodes[node]
	var r partner.Result
	for number := range s.Parts() {
		if m, there := partner.Again(s, number); there {
			r.Send = append(r.Send, m)
		}
	}
	for _, a := range s.Activities() {
		for reg := range a.Regs {
			if m, there := lead.Again(s, a.Context.Act, reg); there {
				r.Send = append(r.Send, m)
			}
		}
	}
	k.take(node, r)
}

// ready tells whether each registration is Completed, or has left.
func ready(a store.Activity) bool {
	return !slices.ContainsFunc(a.Regs, func(r store.Reg) bool { return r.Seat.State != api.Completed && r.Seat.How != api.Exit })
}

// decide decides what becomes of an Atomic activity, if it isn't decided: it closes, where that may be, and somebody wants it.
func (k *talk) decide(node int, a store.Activity, closes bool) {
	if a.Context.Outcome != api.Atomic || a.Decision != 0 {
		return
	}
	act, decision := a.Context.Act, 2
	if closes && ready(a) {
		decision = 1
	}
	k.take(node, partner.Result{Facts: []facts.Fact{{Kind: facts.Decided, Act: act, Decision: decision}}})
	k.carry(node, act, decision)
}

// carry does what is due by a Decision.
func (k *talk) carry(node int, act api.Act, decision int) {
	s := k.nodes[node]
	a, _ := activity(s, act)
	for i, r := range a.Regs {
		kind := 0
		switch {
		case r.Seat.State == api.Completed && decision == 1:
			kind = api.Close
		case r.Seat.State == api.Completed:
			kind = api.Compensate
		case decision == 2 && (r.Seat.State == api.Active || r.Seat.State == api.Completing):
			kind = api.Cancel
		}
		e, err := r.Seat.Do(kind)
		if err != nil {
			continue
		}
		m, there := lead.Message(s, act, i, kind)
		if !there {
			k.t.Fatalf("there is no message to the registration %d of %+v", i, act)
		}
		k.take(node, partner.Result{Facts: []facts.Fact{seatedAs(act, i, e.Seat)}, Send: []api.Message{m}})
	}
}

// anew makes a node's store anew of its facts.
func (k *talk) anew(node int) {
	rows, err := facts.Rows(k.nodes[node].Facts()...)
	if err != nil {
		k.t.Fatal(err)
	}
	if k.nodes[node], err = store.Replay(node, rows); err != nil {
		k.t.Fatal(err)
	}
}

// step is something that happens, by dice.
func (k *talk) step() {
	node := k.roll(3)
	acts, parts := k.nodes[node].Activities(), k.nodes[node].Parts()
	what := k.roll(40)
	switch {
	case what == 0:
		k.open()
	case what < 4:
		k.join()
	case what < 6:
		k.now += float64(k.roll(2))
	case what < 8:
		k.again(node)
	case what == 8:
		k.anew(node)
	case what < 14 && len(parts) > 0:
		k.do(node, k.roll(len(parts)), some(k.roll, 1, 3, 3, 3, 3, 4, 5, 6, 7, 8))
	case what < 18 && len(parts) > 0:
		k.work(node, k.roll(10))
	case what < 21 && len(acts) > 0:
		a := acts[k.roll(len(acts))]
		k.direct(node, a.Context.Act, k.roll(6), some(k.roll, 2, 2, 9, 10, 11))
	case what == 21 && len(acts) > 0:
		k.decide(node, acts[k.roll(len(acts))], k.roll(3) > 0)
	case what == 22 && len(acts) > 0:
		k.forget(node, acts[k.roll(len(acts))].Context.Act)
	default:
		k.arrive()
	}
}

// work lets the applications of a node answer what they have to do; by chance 0 they fail.
func (k *talk) work(node, chance int) {
	answer := map[int]int{api.Complete: api.IsCompleted, api.Close: api.Closed, api.Cancel: api.Canceled, api.Compensate: api.Compensated}
	for number, p := range k.nodes[node].Parts() {
		kind := answer[p.Seat.Work()]
		if kind != 0 && kind != api.Closed && chance == 0 {
			kind = api.Fail
		}
		k.do(node, number, kind)
	}
}

// onWay is the states in which a side is on its way to an end.
var onWay = map[int][]int{
	api.Closed: {api.Closing}, api.Compensated: {api.Compensating}, api.Canceled: {api.Canceling, api.CancelingCompleting}, api.Exit: {api.Exiting},
	api.Fail: {api.FailingActive, api.FailingCanceling, api.FailingCompleting, api.FailingCompensating}, api.CannotComplete: {api.NotCompleting},
}

// alike tells whether a side ended as the other one, or is on its way there, if that one has ended.
func alike(a, b moves.Seat) bool {
	return a.State != api.Ended || b.State == api.Ended && b.How == a.How || slices.Contains(onWay[a.How], b.State)
}

// holds fails if a registration's sides don't end alike, or an Atomic activity's registrations end in two ways.
func (k *talk) holds() {
	k.t.Helper()
	for _, s := range k.nodes {
		for _, a := range s.Activities() {
			closed, undone := false, false
			for i, r := range a.Regs {
				p, there := part(k.nodes[r.Node], r.Part)
				if !there || p.Act != a.Context.Act || p.Reg != -1 && p.Reg != i || p.Seat.Protocol != r.Seat.Protocol {
					k.t.Fatalf("the registration %d, %+v of %+v is of %+v, %v", i, r, a.Context.Act, p, there)
				}
				if !alike(r.Seat, p.Seat) || !alike(p.Seat, r.Seat) {
					k.t.Fatalf("the sides of a registration are %+v and %+v", r.Seat, p.Seat)
				}
				closed = closed || r.Seat.State == api.Closing || r.Seat.How == api.Closed
				undone = undone || slices.Contains([]int{api.Canceling, api.CancelingCompleting, api.Compensating}, r.Seat.State) || r.Seat.How == api.Canceled || r.Seat.How == api.Compensated
			}
			if a.Context.Outcome == api.Atomic && (closed && (undone || a.Decision != 1)) {
				k.t.Fatalf("an Atomic activity comes to %+v", a)
			}
		}
	}
}

// settle lets all that is on its way come, all applications answer, all that is open be decided, and both sides send again.
func (k *talk) settle() {
	for range 12 {
		k.settleWay()
		for node, s := range k.nodes {
			k.work(node, 1)
			for _, a := range s.Activities() {
				k.decide(node, a, true)
				for reg := range a.Regs {
					for _, kind := range []int{api.Close, api.Cancel} {
						k.direct(node, a.Context.Act, reg, kind)
					}
				}
			}
			k.again(node)
		}
		k.holds()
	}
}

// TestTalk is of all that both sides say: whatever comes, all facts fit, all that is sent is right, and registrations end alike; behind it all end, and may be forgotten.
func TestTalk(t *testing.T) {
	ends, regs := map[int]int{}, 0
	for round := range 500 {
		k := newTalk(t, uint64(1700+round))
		k.open()
		for range 250 {
			k.step()
			k.holds()
		}
		k.settle()
		for node := range k.nodes {
			for _, a := range k.nodes[node].Activities() {
				for _, r := range a.Regs {
					ends[r.Seat.How]++
					regs++
				}
				k.forget(node, a.Context.Act)
			}
			if left := k.nodes[node].Activities(); len(left) > 0 {
				t.Fatalf("what can't be forgotten behind all is %+v", left)
			}
			for _, p := range k.nodes[node].Parts() {
				if p.Seat.State != api.Ended {
					t.Fatalf("a participant that hasn't ended is %+v", p)
				}
			}
		}
	}
	for _, how := range []int{api.Exit, api.Fail, api.CannotComplete, api.Canceled, api.Closed, api.Compensated} {
		if ends[how] < 30 {
			t.Errorf("just %d of %d ended by %d: %v", ends[how], regs, how, ends)
		}
	}
}

// TestForgottenTalk is of a participant whose activity is forgotten ahead of what it is told last: it asks on, and ends as its other side did.
func TestForgottenTalk(t *testing.T) {
	for _, c := range []struct{ kind, how int }{{api.Exit, api.Exit}, {api.Fail, api.Fail}, {api.CannotComplete, api.CannotComplete}} {
		k := newTalk(t, 1)
		r, context, err := lead.Open(k.nodes[0], api.Mixed, 0, 9)
		if err != nil {
			t.Fatal(err)
		}
		k.take(0, r)
		if r, err = partner.Join(k.nodes[1], context, api.PC, 0); err != nil {
			t.Fatal(err)
		}
		k.take(1, r)
		k.settleWay()
		k.do(1, 0, c.kind)
		k.deliver(k.way[0])
		k.way = nil // the answer is lost
		k.forget(0, context.Act)
		if len(k.nodes[0].Activities()) != 0 {
			t.Fatal("the activity isn't forgotten")
		}
		k.again(1)
		k.settleWay()
		if p, _ := part(k.nodes[1], 0); p.Seat.State != api.Ended || p.Seat.How != c.how {
			t.Errorf("the participant comes to %+v", p)
		}
	}
}

// settleWay lets all that is on its way come.
func (k *talk) settleWay() {
	for len(k.way) > 0 {
		b := k.way[0]
		k.way = k.way[1:]
		k.deliver(b)
	}
}
