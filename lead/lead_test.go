package lead_test

import (
	"math"
	"slices"
	"testing"

	"liaison/api"
	"liaison/facts"
	"liaison/lead"
	"liaison/partner"
	"liaison/store"
)

// Tests by hand: what is wanted is written out.

var (
	infinity  = math.Inf(1)
	minusZero = math.Copysign(0, -1)
)

// strange is numbers that are far from what there is, or right in fewer bits.
func strange() []int {
	return []int{-1, -2, 4, 5, 6, 7, 8, 9, 255, 256, 257, 1000000, 1 << 31, 1 << 32, 1<<32 + 1, math.MinInt32, -1 << 32, math.MaxInt - 1, math.MaxInt, math.MinInt, math.MinInt + 1}
}

// own is an activity of node 1, at which the tests by hand are.
func own(seq int) api.Act {
	return api.Act{Node: 1, Seq: seq}
}

// far is an activity of another node, for which node 1 has participants.
var far = api.Act{Node: 2, Seq: 7}

func opened(seq, outcome int) facts.Fact {
	return facts.Fact{Kind: facts.Opened, Act: own(seq), Outcome: outcome, Expires: 9}
}

func below(seq, parent int) facts.Fact {
	return facts.Fact{Kind: facts.Opened, Act: own(seq), Outcome: api.Atomic, Depth: 1, Expires: 9, Parent: parent}
}

func enrolled(seq, reg, node, part, protocol int) facts.Fact {
	return facts.Fact{Kind: facts.Enrolled, Act: own(seq), Reg: reg, Node: node, Part: part, Protocol: protocol}
}

func seated(seq, reg, state, how int) facts.Fact {
	return facts.Fact{Kind: facts.Seated, Act: own(seq), Reg: reg, State: state, How: how}
}

func decided(seq, decision int) facts.Fact {
	return facts.Fact{Kind: facts.Decided, Act: own(seq), Decision: decision}
}

func forgot(seq int) facts.Fact {
	return facts.Fact{Kind: facts.Forgot, Act: own(seq)}
}

func joined(part, protocol int) facts.Fact {
	return facts.Fact{Kind: facts.Joined, Part: part, Act: far, Protocol: protocol}
}

func placed(part, reg int) facts.Fact {
	return facts.Fact{Kind: facts.Placed, Part: part, Reg: reg}
}

func turned(part, state, how int) facts.Fact {
	return facts.Fact{Kind: facts.Turned, Part: part, State: state, How: how}
}

// made is a store of a node behind facts, none of which has an error.
func made(t *testing.T, node int, list ...facts.Fact) *store.Store {
	t.Helper()
	s, err := store.New(node)
	if err != nil {
		t.Fatal(err)
	}
	apply(t, s, list...)
	return s
}

// apply lets a store know facts, none of which has an error.
func apply(t *testing.T, s *store.Store, list ...facts.Fact) {
	t.Helper()
	for _, f := range list {
		if err := s.Apply(f); err != nil {
			t.Fatalf("behind\n%s\nApply of %+v answers %v", knows(s), f, err)
		}
	}
}

// one is a store of node 1 with the activity 0, of an outcome, that has three registrations; the second one, of node 3's participant 5, is by a protocol, in a state that isn't Ended.
func one(t *testing.T, outcome, protocol, state int) *store.Store {
	t.Helper()
	s := made(t, 1, opened(0, outcome), enrolled(0, 0, 3, 4, api.PC), enrolled(0, 1, 3, 5, protocol), enrolled(0, 2, 2, 5, api.CC))
	if state != api.Active {
		apply(t, s, seated(0, 1, state, 0))
	}
	return s
}

// from is a message of a kind from node 3's participant 5, as the registration 1.
func from(kind int) api.Message {
	return api.Message{Kind: kind, From: 3, To: 1, Act: own(0), Reg: 1, Part: 5}
}

// to is a message of a kind to node 3's participant 5, as the registration 1.
func to(kind int) api.Message {
	return api.Message{Kind: kind, From: 1, To: 3, Act: own(0), Reg: 1, Part: 5}
}

// register is a Register of a node's participant for the activity 0.
func register(node, part, protocol int) api.Message {
	return api.Message{Kind: api.Register, From: node, To: 1, Act: own(0), Part: part, Protocol: protocol}
}

// coded is a message with a code.
func coded(m api.Message, code int) api.Message {
	m.Code = code
	return m
}

// none is a result of nothing.
var none = partner.Result{}

// just is a result of messages alone.
func just(list ...api.Message) partner.Result {
	return partner.Result{Send: list}
}

// answers fails if a result isn't the one that is wanted.
func answers(t *testing.T, what string, got, want partner.Result) {
	t.Helper()
	if text(got) != text(want) {
		t.Errorf("%s: there is\n%s\nnot\n%s", what, text(got), text(want))
	}
}

// told fails if what comes of Tell at 1 isn't what is wanted, by hand and by the words.
func told(t *testing.T, what string, s *store.Store, m api.Message, want partner.Result) {
	t.Helper()
	toldAt(t, what, s, m, 1, want)
}

// toldAt is told at another time.
func toldAt(t *testing.T, what string, s *store.Store, m api.Message, now float64, want partner.Result) {
	t.Helper()
	defer stays(t, s)()
	answers(t, what, tells(t, s, m, now), want)
}

func TestLimits(t *testing.T) {
	limits := []int{api.MaxNodes, api.MaxActs, api.MaxRegs, api.MaxParts, api.MaxSeq, api.MaxDepth}
	kinds := []int{api.Exit, api.Complete, api.IsCompleted, api.Fail, api.CannotComplete, api.Canceled, api.Closed, api.Compensated, api.Close, api.Cancel, api.Compensate, api.Failed, api.Exited, api.NotCompleted, api.GetStatus, api.Status, api.Register, api.Registered, api.Fault}
	codes := []int{api.InvalidState, api.InvalidProtocol, api.InvalidParameters, api.CannotRegister, api.UnknownActivity}
	if !slices.Equal(limits, []int{4, 8, 6, 8, 1000000, 3}) || !slices.Equal(kinds, []int{1, 2, 3, 4, 5, 6, 7, 8, 9, 10, 11, 12, 13, 14, 15, 16, 17, 18, 19}) || !slices.Equal(codes, []int{1, 2, 3, 4, 5}) {
		t.Fatalf("the tests are made for other limits and numbers than %v, %v, %v", limits, kinds, codes)
	}
}

// TestExample is of the chapter's example.
func TestExample(t *testing.T) {
	s := made(t, 1, opened(0, api.Atomic))
	registered := api.Message{Kind: api.Registered, From: 1, To: 2, Act: own(0), Part: 3, Protocol: api.PC}
	told(t, "Register", s, register(2, 3, api.PC), partner.Result{Facts: []facts.Fact{enrolled(0, 0, 2, 3, api.PC)}, Send: []api.Message{registered}})
	apply(t, s, enrolled(0, 0, 2, 3, api.PC))
	told(t, "Register again", s, register(2, 3, api.PC), just(registered))
}

func TestOpen(t *testing.T) {
	for node := range 4 {
		for _, outcome := range []int{api.Atomic, api.Mixed} {
			for _, c := range []struct{ now, lasts, expires float64 }{
				{0, 9, 9}, {5, 4, 9}, {5, 0, 5}, {0, 0, 0}, {minusZero, minusZero, 0}, {minusZero, 3, 3}, {3, minusZero, 3},
				{7, infinity, infinity}, {infinity, 7, infinity}, {math.MaxFloat64, math.MaxFloat64, infinity}, {0, 5e-324, 5e-324},
			} {
				s := made(t, node, facts.Fact{Kind: facts.Opened, Act: api.Act{Node: node, Seq: 3}, Outcome: api.Mixed}, facts.Fact{Kind: facts.Forgot, Act: api.Act{Node: node, Seq: 3}})
				still := stays(t, s)
				r, got, err := lead.Open(s, outcome, c.now, c.lasts)
				act := api.Act{Node: node, Seq: 4}
				if want := (api.Context{Act: act, Outcome: outcome, Expires: c.expires}); err != nil || !same(got, want) {
					t.Errorf("Open of %d, %g, %g answers %+v, %v", outcome, c.now, c.lasts, got, err)
				}
				answers(t, "Open", r, partner.Result{Facts: []facts.Fact{{Kind: facts.Opened, Act: act, Outcome: outcome, Expires: c.expires}}})
				if err := opens(t, s, outcome, c.now, c.lasts); err != nil {
					t.Error(err)
				}
				still()
			}
		}
	}
}

// notOpened fails if Open doesn't answer this error.
func notOpened(t *testing.T, what string, s *store.Store, outcome int, now, lasts float64, want error) {
	t.Helper()
	r, c, err := lead.Open(s, outcome, now, lasts)
	if !is(err, want) || r.Facts != nil || r.Send != nil || r.Work != 0 || !same(c, api.Context{}) {
		t.Errorf("%s: Open of %d, %g, %g answers %s, %+v, %v, not %v", what, outcome, now, lasts, text(r), c, err, want)
	}
	if s != nil {
		defer stays(t, s)()
		opens(t, s, outcome, now, lasts)
	}
}

// eight is the facts of eight activities, from one of a Seq on.
func eight(seq int) []facts.Fact {
	var list []facts.Fact
	for i := range 8 {
		list = append(list, opened(seq+i, 1+i%2))
	}
	return list
}

func TestOpenOfWrong(t *testing.T) {
	noTimes := []float64{math.NaN(), -1, math.Inf(-1), -5e-324, -math.MaxFloat64}
	s := made(t, 1)
	for _, outcome := range append(strange(), 0, 3) {
		notOpened(t, "no outcome", s, outcome, 0, 9, api.ErrForm)
	}
	for _, x := range noTimes {
		notOpened(t, "no time", s, api.Atomic, x, 9, api.ErrForm)
		notOpened(t, "no delay", s, api.Mixed, 0, x, api.ErrForm)
	}
	for what, s := range map[string]*store.Store{
		"as many activities as there may be": made(t, 1, eight(0)...),
		"as many activities, the last ones":  made(t, 1, eight(999992)...),
		"as many Seqs as there may be":       made(t, 1, opened(999999, api.Atomic)),
		"none there, but all Seqs gone":      made(t, 1, opened(999999, api.Atomic), forgot(999999)),
	} {
		notOpened(t, what, s, api.Atomic, 0, 9, api.ErrFull)
		notOpened(t, what+", no outcome", s, 0, 0, 9, api.ErrFull)
		for _, x := range noTimes {
			notOpened(t, what+", no time", s, api.Mixed, x, 9, api.ErrFull)
			notOpened(t, what+", no delay", s, api.Mixed, 0, x, api.ErrFull)
		}
	}
	s = made(t, 1, eight(0)[:7]...)
	if err := opens(t, s, api.Mixed, 0, 9); err != nil {
		t.Errorf("the eighth Open answers %v", err)
	}
	apply(t, s, opened(999998, api.Mixed), forgot(0))
	if err := opens(t, s, api.Atomic, 0, 9); err != nil {
		t.Errorf("Open as the last Seq, where one of eight is gone, answers %v", err)
	}
	apply(t, s, opened(999999, api.Mixed), forgot(1))
	notOpened(t, "all Seqs gone", s, api.Atomic, 0, 9, api.ErrFull)
}

// context is one of the far activity.
func context(outcome, depth int, expires float64) api.Context {
	return api.Context{Act: far, Outcome: outcome, Depth: depth, Expires: expires}
}

func TestNest(t *testing.T) {
	for number := range 8 {
		for depth := range 3 {
			for _, state := range []int{api.Active, api.Completing} {
				s := made(t, 1, opened(0, api.Mixed))
				for i := range 8 {
					apply(t, s, joined(i, api.CC), turned(i, state, 0))
				}
				if depth == 1 {
					apply(t, s, placed(number, 3))
				}
				if number > 0 {
					apply(t, s, below(1, number))
				}
				still := stays(t, s)
				c := context(1+depth%2, depth, []float64{9, infinity, 0}[depth])
				r, got, err := lead.Nest(s, number, c)
				want := api.Context{Act: own(s.Next()), Outcome: api.Atomic, Depth: depth + 1, Expires: c.Expires}
				if err != nil || !same(got, want) {
					t.Errorf("Nest of %d, %+v answers %+v, %v", number, c, got, err)
				}
				answers(t, "Nest", r, partner.Result{Facts: []facts.Fact{{Kind: facts.Opened, Act: want.Act, Outcome: api.Atomic, Depth: depth + 1, Expires: c.Expires, Parent: number + 1}}})
				nests(t, s, number, c)
				still()
				apply(t, s, r.Facts...)
				notNested(t, "one below it", s, number, c, api.ErrState)
				apply(t, s, facts.Fact{Kind: facts.Forgot, Act: got.Act})
				if err := nests(t, s, number, c); err != nil {
					t.Errorf("where none is below it any more Nest answers %v", err)
				}
			}
		}
	}
}

// notNested fails if Nest doesn't answer this error.
func notNested(t *testing.T, what string, s *store.Store, number int, c api.Context, want error) {
	t.Helper()
	r, child, err := lead.Nest(s, number, c)
	if !is(err, want) || r.Facts != nil || r.Send != nil || r.Work != 0 || !same(child, api.Context{}) {
		t.Errorf("%s: Nest of %d, %+v answers %s, %+v, %v, not %v", what, number, c, text(r), child, err, want)
	}
	if s != nil {
		defer stays(t, s)()
		nests(t, s, number, c)
	}
}

// wrongContexts is contexts that aren't right, or of another activity than the far one.
func wrongContexts(depth int) []api.Context {
	good := context(api.Atomic, depth, 9)
	var list []api.Context
	for _, n := range append(strange(), 0, 1, 2, 3) {
		for place := range 4 {
			c := good
			*[]*int{&c.Act.Node, &c.Act.Seq, &c.Outcome, &c.Depth}[place] = n
			if !right(c) || c.Act != far {
				list = append(list, c)
			}
		}
	}
	for _, expires := range []float64{math.NaN(), -1, minusZero, math.Inf(-1), -5e-324} {
		list = append(list, context(api.Mixed, depth, expires))
	}
	return append(list, api.Context{})
}

// TestNestOfWrong is of each error, and of those that go ahead of others.
func TestNestOfWrong(t *testing.T) {
	good, deepest := context(api.Atomic, 2, 9), context(api.Mixed, 3, 9)
	parts := []facts.Fact{joined(0, api.PC), joined(1, api.CC), joined(2, api.CC), joined(3, api.PC), turned(1, api.Completed, 0), turned(2, api.Completing, 0), turned(3, api.Ended, api.Closed)}
	one := made(t, 1, append(parts, below(0, 3))...)
	full := made(t, 1, append(append(parts, eight(0)[:7]...), below(7, 3))...)
	used := made(t, 1, append(parts, below(999999, 3))...)
	for _, s := range []*store.Store{one, full, used} {
		for _, number := range append(strange(), 4) {
			if number >= 0 && number < 4 {
				continue
			}
			for _, c := range append(wrongContexts(2), good, deepest) {
				notNested(t, "no such participant", s, number, c, api.ErrNone)
			}
		}
		for number := range 4 {
			for _, c := range append(wrongContexts(2), wrongContexts(3)...) {
				notNested(t, "a context that isn't right, or another one", s, number, c, api.ErrForm)
			}
		}
		for _, c := range []api.Context{good, deepest} {
			notNested(t, "neither Active nor Completing", s, 1, c, api.ErrState)
			notNested(t, "one below it", s, 2, c, api.ErrState)
			notNested(t, "ended", s, 3, c, api.ErrState)
		}
	}
	for _, s := range []*store.Store{full, used} {
		notNested(t, "as many as there may be", s, 0, good, api.ErrFull)
		notNested(t, "as many as there may be, and too deep", s, 0, deepest, api.ErrFull)
	}
	notNested(t, "too deep", one, 0, deepest, api.ErrDepth)
	if err := nests(t, one, 0, good); err != nil {
		t.Errorf("Nest answers %v", err)
	}
	notNested(t, "nobody there", made(t, 1), 0, good, api.ErrNone)
}

// TestNestStates is of each state of the participant.
func TestNestStates(t *testing.T) {
	for state := api.Active; state < api.Ended; state++ {
		if state == api.CancelingCompleting {
			continue
		}
		s := made(t, 1, joined(0, api.CC), turned(0, state, 0))
		if err := nests(t, s, 0, context(api.Mixed, 0, 5)); is(err, api.ErrState) == (state == api.Active || state == api.Completing) {
			t.Errorf("in state %d Nest answers %v", state, err)
		}
	}
}

func TestTakes(t *testing.T) {
	s := made(t, 1, opened(0, api.Atomic), opened(1, api.Mixed), opened(2, api.Atomic), decided(2, 1), opened(3, api.Atomic), decided(3, 2))
	apply(t, s, facts.Fact{Kind: facts.Opened, Act: own(4), Outcome: api.Atomic, Expires: infinity}, facts.Fact{Kind: facts.Opened, Act: own(5), Outcome: api.Atomic}, opened(6, api.Mixed), forgot(6))
	want := func(seq int, now float64, yes bool) {
		t.Helper()
		if takes(t, s, own(seq), now) != yes {
			t.Errorf("Takes of %d at %g answers %v", seq, now, !yes)
		}
	}
	for _, now := range []float64{0, minusZero, 5e-324, 5, math.Nextafter(9, 0)} {
		want(0, now, true)
		want(1, now, true)
		want(2, now, false) // it closes
		want(3, now, false) // it cancels
		want(4, now, true)
		want(5, now, false) // it has expired from its beginning on
		want(6, now, false) // it is forgotten
		want(7, now, false)
		want(-1, now, false)
	}
	for _, now := range []float64{9, math.Nextafter(9, 10), 1e300, math.MaxFloat64} {
		want(0, now, false)
		want(1, now, false)
		want(4, now, true)
	}
	for _, now := range []float64{infinity, math.NaN(), -1, math.Inf(-1), -5e-324} {
		for seq := range 5 {
			want(seq, now, false)
		}
	}
	if takes(t, s, api.Act{Node: 2}, 0) || takes(t, s, api.Act{Node: -1}, 0) {
		t.Error("another node's activity takes registrations")
	}
	for i := range 6 {
		want(0, 0, true)
		apply(t, s, enrolled(0, i, 2, i, api.PC))
	}
	want(0, 0, false)
	for i := range 6 {
		apply(t, s, seated(0, i, api.Ended, api.Exit))
	}
	want(0, 0, false)
}

// TestTakesBelow is of an activity below each participant, in each state.
func TestTakesBelow(t *testing.T) {
	for number := range 8 {
		for state := api.Active; state <= api.Ended; state++ {
			s := made(t, 1)
			for i := range 8 {
				apply(t, s, joined(i, api.CC))
			}
			apply(t, s, below(0, number+1), opened(1, api.Atomic))
			if state == api.CancelingCompleting {
				continue
			}
			if state == api.Ended {
				apply(t, s, turned(number, state, api.Exit))
			} else {
				apply(t, s, turned(number, state, 0))
			}
			yes := state == api.Active || state == api.Completing
			if takes(t, s, own(0), 1) != yes || !takes(t, s, own(1), 1) || takes(t, s, own(0), 9) {
				t.Errorf("below participant %d in state %d Takes answers %v", number, state, !yes)
			}
			m := register(2, 3, api.PC)
			if r := tells(t, s, m, 1); (len(r.Facts) == 1) != yes || !yes && r.Send[0].Code != api.CannotRegister {
				t.Errorf("below participant %d in state %d Tell of a Register answers %s", number, state, text(r))
			}
		}
	}
}

func TestMessage(t *testing.T) {
	s := one(t, api.Atomic, api.CC, api.Completing)
	apply(t, s, opened(1, api.Mixed), enrolled(1, 0, 1, 0, api.PC), opened(2, api.Mixed), forgot(2), opened(3, api.Atomic))
	for _, kind := range append(strange(), 0, 1, 2, 3, 10, 11, 12, 13, 14, 15, 16, 17, 18, 19, 20) {
		for _, c := range []struct {
			seq, reg int
			want     api.Message
		}{
			{0, 0, api.Message{Kind: kind, From: 1, To: 3, Act: own(0), Reg: 0, Part: 4}},
			{0, 1, to(kind)},
			{0, 2, api.Message{Kind: kind, From: 1, To: 2, Act: own(0), Reg: 2, Part: 5}},
			{1, 0, api.Message{Kind: kind, From: 1, To: 1, Act: own(1), Reg: 0, Part: 0}},
		} {
			if m, there := lead.Message(s, own(c.seq), c.reg, kind); m != c.want || !there {
				t.Errorf("Message of kind %d answers %+v, %v, not %+v", kind, m, there, c.want)
			}
			sends(t, s, own(c.seq), c.reg, kind)
		}
		for _, act := range []api.Act{own(0), own(1), own(2), own(3), own(4), own(-1), {Node: 2, Seq: 0}, {Node: -1, Seq: 0}} {
			for _, reg := range append(strange(), 0, 1, 2, 3) {
				if act == own(0) && reg >= 0 && reg < 3 || act == own(1) && reg == 0 {
					continue
				}
				if m, there := lead.Message(s, act, reg, kind); m != (api.Message{}) || there {
					t.Errorf("Message of %+v, %d, where there is none, answers %+v, %v", act, reg, m, there)
				}
				if m, there := lead.Again(s, act, reg); m != (api.Message{}) || there {
					t.Errorf("Again of %+v, %d, where there is none, answers %+v, %v", act, reg, m, there)
				}
				sends(t, s, act, reg, kind)
			}
		}
	}
}

func TestAgain(t *testing.T) {
	for state, kind := range map[int]int{
		api.Active: 0, api.Canceling: api.Cancel, api.CancelingCompleting: api.Cancel, api.Completing: api.Complete, api.Completed: 0,
		api.Closing: api.Close, api.Compensating: api.Compensate, api.FailingActive: 0, api.FailingCanceling: 0, api.FailingCompleting: 0,
		api.FailingCompensating: 0, api.NotCompleting: 0, api.Exiting: 0,
	} {
		for _, outcome := range []int{api.Atomic, api.Mixed} {
			want := api.Message{}
			if kind != 0 {
				want = to(kind)
			}
			s := one(t, outcome, api.CC, state)
			if m, there := lead.Again(s, own(0), 1); m != want || there != (kind != 0) {
				t.Errorf("Again in state %d answers %+v, %v", state, m, there)
			}
			sends(t, s, own(0), 1, kind)
			apply(t, s, seated(0, 1, api.Ended, api.Closed))
			if m, there := lead.Again(s, own(0), 1); m != (api.Message{}) || there {
				t.Errorf("Again of one that has ended answers %+v, %v", m, there)
			}
		}
	}
}

func TestDirect(t *testing.T) {
	for _, c := range []struct{ outcome, protocol, state, kind, next int }{
		{api.Atomic, api.CC, api.Active, api.Complete, api.Completing},
		{api.Mixed, api.CC, api.Active, api.Complete, api.Completing},
		{api.Mixed, api.PC, api.Active, api.Cancel, api.Canceling},
		{api.Mixed, api.CC, api.Active, api.Cancel, api.Canceling},
		{api.Mixed, api.CC, api.Completing, api.Cancel, api.CancelingCompleting},
		{api.Mixed, api.PC, api.Completed, api.Close, api.Closing},
		{api.Mixed, api.CC, api.Completed, api.Compensate, api.Compensating},
	} {
		s := one(t, c.outcome, c.protocol, c.state)
		still := stays(t, s)
		r, err := lead.Direct(s, own(0), 1, c.kind)
		if err != nil {
			t.Errorf("Direct of %+v answers %v", c, err)
			continue
		}
		answers(t, "Direct", r, partner.Result{Facts: []facts.Fact{seated(0, 1, c.next, 0)}, Send: []api.Message{to(c.kind)}})
		directs(t, s, own(0), 1, c.kind)
		still()
	}
	// A Decision keeps nobody from being told to complete, as the chapter says.
	s := one(t, api.Atomic, api.CC, api.Active)
	apply(t, s, decided(0, 2))
	if err := directs(t, s, own(0), 1, api.Complete); err != nil {
		t.Errorf("Direct of one that is decided answers %v", err)
	}
}

// undirected fails if Direct doesn't answer this error.
func undirected(t *testing.T, what string, s *store.Store, act api.Act, reg, kind int, want error) {
	t.Helper()
	r, err := lead.Direct(s, act, reg, kind)
	if !is(err, want) || r.Facts != nil || r.Send != nil || r.Work != 0 {
		t.Errorf("%s: Direct of %+v, %d, %d answers %s, %v, not %v", what, act, reg, kind, text(r), err, want)
	}
	if s != nil {
		defer stays(t, s)()
		directs(t, s, act, reg, kind)
	}
}

// TestDirectOfWrong is of each error, and of those that go ahead of others.
func TestDirectOfWrong(t *testing.T) {
	directions := []int{api.Complete, api.Close, api.Cancel, api.Compensate}
	others := append(strange(), 0, 1, 3, 12, 13, 14, 15, 16, 17, 18, 19, 20)
	for _, outcome := range []int{api.Atomic, api.Mixed} {
		s := one(t, outcome, api.PC, api.Closing)
		apply(t, s, opened(1, outcome), forgot(1), opened(3, outcome))
		for _, kind := range append(slices.Clone(directions), others...) {
			for _, act := range []api.Act{own(1), own(2), own(-1), own(4), {Node: 0, Seq: 0}, {Node: 3, Seq: 3}, {Node: -1, Seq: 0}} {
				for _, reg := range []int{-1, 0, 1, 6, math.MaxInt} {
					undirected(t, "no such activity", s, act, reg, kind, api.ErrNone)
				}
			}
			for _, reg := range append(strange(), 3) {
				undirected(t, "no such registration", s, own(0), reg, kind, api.ErrRange)
			}
			undirected(t, "no registrations", s, own(3), 0, kind, api.ErrRange)
		}
		for _, kind := range others {
			if slices.Contains(directions, kind) {
				continue
			}
			for reg := range 3 {
				undirected(t, "no direction", s, own(0), reg, kind, api.ErrForm)
			}
		}
	}
	// What the coordinator does by itself, but for directions, isn't directed even where its seat could do it.
	for kind, state := range map[int]int{api.Failed: api.FailingActive, api.Exited: api.Exiting, api.NotCompleted: api.NotCompleting} {
		undirected(t, "no direction", one(t, api.Mixed, api.CC, state), own(0), 1, kind, api.ErrForm)
	}
	for _, kind := range directions[1:] {
		undirected(t, "an Atomic one in Active", one(t, api.Atomic, api.PC, api.Active), own(0), 1, kind, api.ErrState)
		undirected(t, "an Atomic one in Completed", one(t, api.Atomic, api.CC, api.Completed), own(0), 1, kind, api.ErrState)
		undirected(t, "a Mixed one in Closing", one(t, api.Mixed, api.CC, api.Closing), own(0), 1, kind, api.ErrState)
	}
	for _, outcome := range []int{api.Atomic, api.Mixed} {
		undirected(t, "Complete by PC", one(t, outcome, api.PC, api.Active), own(0), 1, api.Complete, api.ErrForm)
		undirected(t, "Complete by PC in Completed", one(t, outcome, api.PC, api.Completed), own(0), 1, api.Complete, api.ErrForm)
		undirected(t, "Complete in Completing", one(t, outcome, api.CC, api.Completing), own(0), 1, api.Complete, api.ErrState)
	}
	s := one(t, api.Mixed, api.CC, api.Active)
	apply(t, s, seated(0, 1, api.Ended, api.Exit))
	for _, kind := range directions {
		undirected(t, "one that has ended", s, own(0), 1, kind, api.ErrState)
	}
	undirected(t, "Close in Active", s, own(0), 0, api.Close, api.ErrState)
	undirected(t, "Compensate in Active", s, own(0), 2, api.Compensate, api.ErrState)
}

// forgotten fails if Forget doesn't answer this error, or the fact.
func forgotten(t *testing.T, what string, s *store.Store, act api.Act, want error) {
	t.Helper()
	r, err := lead.Forget(s, act)
	wanted := none
	if want == nil {
		wanted.Facts = []facts.Fact{{Kind: facts.Forgot, Act: act}}
	}
	if !is(err, want) || text(r) != text(wanted) || err != nil && (r.Facts != nil || r.Send != nil) {
		t.Errorf("%s: Forget of %+v answers %s, %v, not %v", what, act, text(r), err, want)
	}
	if s != nil {
		defer stays(t, s)()
		forgets(t, s, act)
	}
}

func TestForget(t *testing.T) {
	for _, outcome := range []int{api.Atomic, api.Mixed} {
		s := made(t, 1, opened(0, outcome), opened(2, api.Mixed), opened(4, api.Atomic), enrolled(4, 0, 2, 2, api.PC))
		forgotten(t, "no registrations, no Decision", s, own(0), nil)
		for _, act := range []api.Act{own(1), own(3), own(5), own(-1), {Node: 2, Seq: 0}, {Node: -1, Seq: 0}, far} {
			forgotten(t, "no such activity", s, act, api.ErrNone)
		}
		apply(t, s, forgot(0))
		forgotten(t, "forgotten", s, own(0), api.ErrNone)
	}
	for _, how := range []int{api.Exit, api.Fail, api.CannotComplete, api.Canceled, api.Closed, api.Compensated} {
		for _, decision := range []int{0, 1, 2} {
			s := one(t, api.Atomic, api.CC, api.Completed)
			if decision > 0 {
				apply(t, s, decided(0, decision))
			}
			for reg := range 3 {
				forgotten(t, "not all have ended", s, own(0), api.ErrState)
				apply(t, s, seated(0, reg, api.Ended, how))
			}
			if decision == 0 {
				forgotten(t, "Atomic, no Decision", s, own(0), api.ErrState)
			} else {
				forgotten(t, "Atomic, decided", s, own(0), nil)
			}
		}
		s := one(t, api.Mixed, api.PC, api.Completed)
		for _, reg := range []int{2, 0, 1} {
			forgotten(t, "not all of a Mixed one have ended", s, own(0), api.ErrState)
			apply(t, s, seated(0, reg, api.Ended, how))
		}
		forgotten(t, "all of a Mixed one have ended", s, own(0), nil)
	}
	for _, decision := range []int{1, 2} {
		forgotten(t, "decided, no registrations", made(t, 1, opened(0, api.Atomic), decided(0, decision)), own(0), nil)
	}
	forgotten(t, "below a participant", made(t, 1, joined(0, api.PC), below(0, 1)), own(0), nil)
	for state := api.Active; state < api.Ended; state++ {
		forgotten(t, "one that hasn't ended", made(t, 1, opened(0, api.Mixed), enrolled(0, 0, 2, 2, api.CC), seated(0, 0, state, 0)), own(0), api.ErrState)
	}
}
