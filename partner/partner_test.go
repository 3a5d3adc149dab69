package partner_test

import (
	"math"
	"slices"
	"testing"

	"liaison/api"
	"liaison/facts"
	"liaison/letter"
	"liaison/partner"
	"liaison/store"
)

// Tests by hand: what is wanted is written out.

var (
	infinity  = math.Inf(1)
	minusZero = math.Copysign(0, -1)
)

// strange is numbers that are far from what there is, or right in fewer bits.
func strange() []int {
	return []int{-1, -2, 4, 5, 6, 7, 8, 9, 255, 256, 257, 1000000, 1 << 31, 1 << 32, 1<<32 + 1, math.MinInt32, -1 << 32, math.MaxInt - 1, math.MaxInt, math.MinInt, math.MinInt + 1}
}

// far is the activity that the tests by hand are of, at node 2; the participants are of node 1.
var far = api.Act{Node: 2, Seq: 7}

func joined(part int, act api.Act, protocol int) facts.Fact {
	return facts.Fact{Kind: facts.Joined, Part: part, Act: act, Protocol: protocol}
}

func placed(part, reg int) facts.Fact {
	return facts.Fact{Kind: facts.Placed, Part: part, Reg: reg}
}

func turned(part, state, how int) facts.Fact {
	return facts.Fact{Kind: facts.Turned, Part: part, State: state, How: how}
}

// made is a store of a node behind facts, none of which has an error.
func made(t *testing.T, node int, list ...facts.Fact) *store.Store {
	t.Helper()
	s, err := store.New(node)
	if err != nil {
		t.Fatal(err)
	}
	apply(t, s, list...)
	return s
}

// apply lets a store know facts, none of which has an error.
func apply(t *testing.T, s *store.Store, list ...facts.Fact) {
	t.Helper()
	for _, f := range list {
		if err := s.Apply(f); err != nil {
			t.Fatalf("behind\n%s\nApply of %+v answers %v", knows(s), f, err)
		}
	}
}

// parts is a store of node 1 with participants of the far activity, by these protocols: not placed, and Active.
func parts(t *testing.T, protocols ...int) *store.Store {
	t.Helper()
	s := made(t, 1)
	for i, protocol := range protocols {
		apply(t, s, joined(i, far, protocol))
	}
	return s
}

// one is a store of node 1 with one participant, placed as the registration 3, in a state that isn't Ended.
func one(t *testing.T, protocol, state int) *store.Store {
	t.Helper()
	s := parts(t, protocol)
	apply(t, s, placed(0, 3), turned(0, state, 0))
	return s
}

// to is a message of a kind from the far activity's node to the participant 0, as the registration 3.
func to(kind int) api.Message {
	return api.Message{Kind: kind, From: 2, To: 1, Act: far, Reg: 3}
}

// fault is a Fault to the participant 0 of a code, as it is answered to a Register.
func fault(code int) api.Message {
	return api.Message{Kind: api.Fault, From: 2, To: 1, Act: far, Code: code}
}

// from is a message of a kind from the participant 0, as the registration 3.
func from(kind int) api.Message {
	return api.Message{Kind: kind, From: 1, To: 2, Act: far, Reg: 3}
}

// coded is a message with a code.
func coded(m api.Message, code int) api.Message {
	m.Code = code
	return m
}

// none is a result of nothing.
var none = partner.Result{}

// answers fails if a result isn't the one that is wanted.
func answers(t *testing.T, what string, got, want partner.Result) {
	t.Helper()
	if text(got) != text(want) {
		t.Errorf("%s: there is\n%s\nnot\n%s", what, text(got), text(want))
	}
}

// told fails if what comes of Tell isn't what is wanted, by hand and by the words.
func told(t *testing.T, what string, s *store.Store, m api.Message, want partner.Result) {
	t.Helper()
	defer stays(t, s)()
	answers(t, what, tells(t, s, m), want)
}

func TestLimits(t *testing.T) {
	limits := []int{api.MaxNodes, api.MaxRegs, api.MaxParts, api.MaxSeq, api.MaxDepth}
	kinds := []int{api.Complete, api.Close, api.Cancel, api.Compensate, api.Failed, api.Exited, api.NotCompleted, api.GetStatus, api.Status, api.Register, api.Registered, api.Fault}
	codes := []int{api.InvalidState, api.InvalidProtocol, api.InvalidParameters, api.CannotRegister, api.UnknownActivity}
	if !slices.Equal(limits, []int{4, 6, 8, 1000000, 3}) || !slices.Equal(kinds, []int{2, 9, 10, 11, 12, 13, 14, 15, 16, 17, 18, 19}) || !slices.Equal(codes, []int{1, 2, 3, 4, 5}) {
		t.Fatalf("the tests are made for other limits and numbers than %v, %v, %v", limits, kinds, codes)
	}
}

// TestExamples is of the chapter's examples.
func TestExamples(t *testing.T) {
	for _, protocol := range []int{api.PC, api.CC} {
		told(t, "Close in Completed", one(t, protocol, api.Completed), to(api.Close), partner.Result{Facts: []facts.Fact{turned(0, api.Closing, 0)}, Work: api.Close})
		told(t, "Close in Active", one(t, protocol, api.Active), to(api.Close), partner.Result{Send: []api.Message{coded(from(api.Fault), api.InvalidState)}})
	}
}

func TestJoin(t *testing.T) {
	for node := range 4 {
		s := made(t, node)
		for i, c := range []api.Context{
			{Act: far, Outcome: api.Atomic, Expires: 9},
			{Act: far, Outcome: api.Mixed, Depth: 3, Expires: infinity},
			{Act: api.Act{Node: 3, Seq: 999999}, Outcome: api.Mixed, Depth: 1, Expires: 5.5},
			{Act: api.Act{}, Outcome: api.Atomic, Expires: 8},
		} {
			protocol := 1 + i%2
			r, err := partner.Join(s, c, protocol, 5)
			if err != nil {
				t.Fatal(err)
			}
			want := partner.Result{
				Facts: []facts.Fact{joined(i, c.Act, protocol)},
				Send:  []api.Message{{Kind: api.Register, From: node, To: c.Act.Node, Act: c.Act, Part: i, Protocol: protocol}},
			}
			answers(t, "Join", r, want)
			if !letter.Right(r.Send[0]) {
				t.Errorf("the message %+v isn't right", r.Send[0])
			}
			joins(t, s, c, protocol, 5)
			apply(t, s, r.Facts...)
		}
	}
}

// refuses fails if Join doesn't answer this error.
func refuses(t *testing.T, what string, s *store.Store, c api.Context, protocol int, now float64, want error) {
	t.Helper()
	r, err := partner.Join(s, c, protocol, now)
	if !is(err, want) || text(r) != text(none) || r.Facts != nil || r.Send != nil {
		t.Errorf("%s: Join of %+v, %d, %g answers %s, %v, not %v", what, c, protocol, now, text(r), err, want)
	}
	if s != nil {
		defer stays(t, s)()
		joins(t, s, c, protocol, now)
	}
}

func TestJoinOfWrong(t *testing.T) {
	good := api.Context{Act: far, Outcome: api.Atomic, Depth: 1, Expires: 9}
	full := parts(t, api.PC, api.CC, api.PC, api.CC, api.PC, api.CC, api.PC, api.CC)
	for _, s := range []*store.Store{made(t, 1), full} {
		for _, n := range strange() {
			for place := range 4 {
				c := good
				*[]*int{&c.Act.Node, &c.Act.Seq, &c.Outcome, &c.Depth}[place] = n
				if right(c) {
					continue
				}
				refuses(t, "a wrong context", s, c, api.PC, 0, api.ErrForm)
				refuses(t, "a wrong context that has expired", s, c, api.CC, 9, api.ErrForm)
			}
			refuses(t, "no protocol", s, good, n, 0, api.ErrForm)
			refuses(t, "no protocol, and expired", s, good, n, 10, api.ErrForm)
		}
		for _, protocol := range []int{0, 3} {
			refuses(t, "no protocol", s, good, protocol, 0, api.ErrForm)
			refuses(t, "no protocol, and expired", s, good, protocol, 10, api.ErrForm)
		}
		for _, outcome := range []int{0, 3} {
			refuses(t, "no outcome", s, api.Context{Act: far, Outcome: outcome, Expires: 9}, api.PC, 0, api.ErrForm)
		}
		for _, expires := range []float64{math.NaN(), -1, minusZero, math.Inf(-1), -5e-324} {
			c := good
			c.Expires = expires
			refuses(t, "a wrong Expires", s, c, api.PC, 0, api.ErrForm)
		}
		for _, now := range []float64{9, math.Nextafter(9, 10), 1e300, infinity, math.NaN(), -1, math.Inf(-1), -5e-324} {
			refuses(t, "not open", s, good, api.PC, now, api.ErrExpired)
		}
		never := good
		never.Expires = 0
		refuses(t, "never open", s, never, api.PC, 0, api.ErrExpired)
		never.Expires = infinity
		refuses(t, "not open at infinity", s, never, api.PC, infinity, api.ErrExpired)
	}
	refuses(t, "as many participants as there may be", full, good, api.PC, 0, api.ErrFull)
	refuses(t, "as many participants as there may be", full, good, api.CC, 8, api.ErrFull)
	for _, now := range []float64{0, minusZero, 5e-324, math.Nextafter(9, 0)} {
		if err := joins(t, made(t, 1), good, api.PC, now); err != nil {
			t.Errorf("Join at %g answers %v", now, err)
		}
	}
}

// TestJoinUpToFull is of each number that a participant may have.
func TestJoinUpToFull(t *testing.T) {
	s := made(t, 3)
	c := api.Context{Act: far, Outcome: api.Mixed, Expires: infinity}
	for i := range 8 {
		if err := joins(t, s, c, api.PC, 0); err != nil {
			t.Fatalf("Join behind %d others answers %v", i, err)
		}
		r, _ := partner.Join(s, c, api.PC, 0)
		if r.Facts[0].Part != i || r.Send[0].Part != i {
			t.Errorf("Join behind %d others answers %s", i, text(r))
		}
		// Those that have ended count too.
		apply(t, s, r.Facts[0], turned(i, api.Ended, api.Exit))
	}
	refuses(t, "all have ended", s, c, api.PC, 0, api.ErrFull)
}

func TestDo(t *testing.T) {
	for _, c := range []struct{ protocol, state, kind, next, how int }{
		{api.PC, api.Active, api.Exit, api.Exiting, 0},
		{api.CC, api.Completing, api.Exit, api.Exiting, 0},
		{api.PC, api.Active, api.IsCompleted, api.Completed, 0},
		{api.CC, api.Completing, api.IsCompleted, api.Completed, 0},
		{api.PC, api.Active, api.Fail, api.FailingActive, 0},
		{api.PC, api.Canceling, api.Fail, api.FailingCanceling, 0},
		{api.CC, api.Completing, api.Fail, api.FailingCompleting, 0},
		{api.CC, api.Compensating, api.Fail, api.FailingCompensating, 0},
		{api.PC, api.Active, api.CannotComplete, api.NotCompleting, 0},
		{api.PC, api.Canceling, api.Canceled, api.Ended, api.Canceled},
		{api.CC, api.Closing, api.Closed, api.Ended, api.Closed},
		{api.PC, api.Compensating, api.Compensated, api.Ended, api.Compensated},
	} {
		s := one(t, c.protocol, c.state)
		r, err := partner.Do(s, 0, c.kind)
		if err != nil {
			t.Errorf("Do of %+v answers %v", c, err)
			continue
		}
		answers(t, "Do", r, partner.Result{Facts: []facts.Fact{turned(0, c.next, c.how)}, Send: []api.Message{from(c.kind)}})
		does(t, s, 0, c.kind)
	}
}

// denies fails if Do doesn't answer this error.
func denies(t *testing.T, what string, s *store.Store, number, kind int, want error) {
	t.Helper()
	r, err := partner.Do(s, number, kind)
	if !is(err, want) || r.Facts != nil || r.Send != nil || r.Work != 0 {
		t.Errorf("%s: Do of %d, %d answers %s, %v, not %v", what, number, kind, text(r), err, want)
	}
	if s != nil {
		defer stays(t, s)()
		does(t, s, number, kind)
	}
}

func TestDoOfWrong(t *testing.T) {
	s := parts(t, api.PC, api.CC, api.PC)
	apply(t, s, placed(1, 0))
	for _, kind := range append(strange(), api.Exit, api.Fail, api.Complete) {
		for _, number := range append(strange(), 3) {
			denies(t, "no such participant", s, number, kind, api.ErrNone)
		}
		denies(t, "nobody", made(t, 1), 0, kind, api.ErrNone)
		denies(t, "not placed", s, 0, kind, api.ErrState)
		denies(t, "not placed", s, 2, kind, api.ErrState)
	}
	for _, kind := range []int{0, -1, api.Complete, api.Close, api.Cancel, api.Compensate, api.Failed, api.Exited, api.NotCompleted, api.GetStatus, api.Status, api.Register, api.Registered, api.Fault, 20, 1 << 32, math.MaxInt, math.MinInt} {
		denies(t, "no kind of a participant's", s, 1, kind, api.ErrForm)
	}
	for _, kind := range []int{api.IsCompleted, api.Canceled, api.Closed, api.Compensated} {
		denies(t, "not in this state", s, 1, kind, api.ErrState)
	}
	for _, kind := range []int{api.Exit, api.Fail, api.CannotComplete} {
		if !does(t, s, 1, kind) {
			t.Errorf("Do of %d has an error", kind)
		}
	}
	apply(t, s, turned(1, api.Ended, api.Closed))
	for _, kind := range []int{api.Exit, api.IsCompleted, api.Fail, api.CannotComplete, api.Canceled, api.Closed, api.Compensated} {
		denies(t, "ended", s, 1, kind, api.ErrState)
	}
	denies(t, "ended, no kind", s, 1, api.Close, api.ErrForm)
}

func TestAgain(t *testing.T) {
	s := parts(t, api.PC, api.CC, api.PC, api.CC)
	apply(t, s, placed(2, 5), turned(3, api.Ended, api.Exit))
	for number, protocol := range []int{api.PC, api.CC} {
		m, there := partner.Again(s, number)
		if want := (api.Message{Kind: api.Register, From: 1, To: 2, Act: far, Part: number, Protocol: protocol}); m != want || !there {
			t.Errorf("Again of %d, which isn't placed, answers %+v, %v", number, m, there)
		}
	}
	for _, number := range append(strange(), 2, 3) {
		if m, there := partner.Again(s, number); m != (api.Message{}) || there {
			t.Errorf("Again of %d answers %+v, %v", number, m, there)
		}
		sends(t, s, number)
	}
	for _, c := range []struct{ state, kind int }{
		{api.Active, 0}, {api.Canceling, 0}, {api.Completing, 0}, {api.Completed, api.IsCompleted}, {api.Closing, 0}, {api.Compensating, 0},
		{api.FailingActive, api.Fail}, {api.FailingCanceling, api.Fail}, {api.FailingCompleting, api.Fail}, {api.FailingCompensating, api.Fail},
		{api.NotCompleting, api.CannotComplete}, {api.Exiting, api.Exit},
	} {
		want := api.Message{}
		if c.kind != 0 {
			want = from(c.kind)
		}
		if m, there := partner.Again(one(t, api.CC, c.state), 0); m != want || there != (c.kind != 0) {
			t.Errorf("Again in state %d answers %+v, %v, not %+v", c.state, m, there, want)
		}
		// One that isn't placed has nothing to wait with.
		s := parts(t, api.CC)
		apply(t, s, turned(0, c.state, 0))
		if m, there := partner.Again(s, 0); there != (c.state == api.Active) || !there && m != (api.Message{}) {
			t.Errorf("Again in state %d of one that isn't placed answers %+v, %v", c.state, m, there)
		}
	}
}

func TestAsked(t *testing.T) {
	s := one(t, api.PC, api.Active)
	want := map[int]bool{
		api.Complete: true, api.Close: true, api.Cancel: true, api.Compensate: true, api.Failed: true, api.Exited: true, api.NotCompleted: true,
		api.Registered: true, api.Status: true, api.Fault: true,
	}
	for kind := -3; kind < 30; kind++ {
		if kind == api.GetStatus {
			continue
		}
		for _, m := range []api.Message{to(kind), from(kind), {Kind: kind}, {Kind: kind, To: 1, Act: api.Act{Node: 1}}, {Kind: kind, From: -1, To: 9, Part: -1}} {
			if got := partner.Asked(s, m); got != want[kind] {
				t.Errorf("Asked of %+v answers %v", m, got)
			}
		}
	}
	for _, kind := range strange() {
		if kind > 19 || kind < 0 {
			if partner.Asked(s, to(kind)) {
				t.Errorf("Asked of kind %d answers true", kind)
			}
		}
	}
	for to := -1; to < 5; to++ {
		for from := range 4 {
			for node := range 4 {
				m := api.Message{Kind: api.GetStatus, From: from, To: to, Act: api.Act{Node: node, Seq: to}}
				if got := partner.Asked(s, m); got != (to != node) {
					t.Errorf("Asked of %+v answers %v", m, got)
				}
			}
		}
	}
}

func TestTellRegistered(t *testing.T) {
	for reg := range 6 {
		m := api.Message{Kind: api.Registered, From: 2, To: 1, Act: far, Reg: reg, Part: 1, Protocol: api.CC}
		s := parts(t, api.PC, api.CC)
		told(t, "Registered", s, m, partner.Result{Facts: []facts.Fact{placed(1, reg)}})
		// As the chapter says: by whatever protocol, and in whatever state.
		m.Protocol = api.PC
		apply(t, s, turned(1, api.Ended, api.Exit))
		told(t, "Registered of one that has ended", s, m, partner.Result{Facts: []facts.Fact{placed(1, reg)}})
		apply(t, s, placed(1, reg))
		told(t, "Registered again", s, m, none)
		m.Reg = (reg + 1) % 6
		told(t, "Registered as another one", s, m, none)
	}
	for _, reg := range strange() {
		m := to(api.Registered)
		m.Reg = reg
		told(t, "Registered, whatever Reg is", parts(t, api.PC), m, partner.Result{Facts: []facts.Fact{placed(0, reg)}})
		s := parts(t, api.PC)
		apply(t, s, placed(0, 2))
		told(t, "Registered of one that is placed, whatever Reg is", s, m, none)
	}
}

func TestTellFault(t *testing.T) {
	s := parts(t, api.CC)
	gone := partner.Result{Facts: []facts.Fact{turned(0, api.Ended, api.Exit)}}
	want := map[int]partner.Result{api.InvalidProtocol: gone, api.CannotRegister: gone, api.UnknownActivity: gone}
	for code := -1; code < 8; code++ {
		told(t, "Fault", s, fault(code), want[code])
		told(t, "Fault of one that is placed", one(t, api.PC, api.Active), coded(to(api.Fault), code), none)
		for state := api.Canceling; state < api.Ended; state++ {
			if state != api.CancelingCompleting {
				s := parts(t, api.CC)
				apply(t, s, turned(0, state, 0))
				told(t, "Fault of one that isn't Active", s, fault(code), none)
			}
		}
	}
	apply(t, s, gone.Facts...)
	told(t, "Fault again", s, fault(api.CannotRegister), none)
}

func TestTellGetStatus(t *testing.T) {
	for state := api.Active; state < api.Ended; state++ {
		if state != api.CancelingCompleting {
			told(t, "GetStatus", one(t, api.CC, state), to(api.GetStatus), partner.Result{Send: []api.Message{coded(from(api.Status), state)}})
		}
	}
	s := parts(t, api.PC)
	told(t, "GetStatus of one that isn't placed", s, to(api.GetStatus), partner.Result{Send: []api.Message{coded(from(api.Status), api.Active)}})
	apply(t, s, turned(0, api.Ended, api.Fail))
	told(t, "GetStatus of one that has ended", s, to(api.GetStatus), partner.Result{Send: []api.Message{coded(from(api.Status), api.Ended)}})
}

// TestTellDown is of a kind that goes Down, in states where there comes something else of it each time.
func TestTellDown(t *testing.T) {
	for _, c := range []struct {
		protocol, state, kind int
		next, how, work       int // the fact; next 0: none
		send, fault           int
	}{
		{protocol: api.CC, state: api.Active, kind: api.Complete, next: api.Completing, work: api.Complete},
		{protocol: api.CC, state: api.Completing, kind: api.Complete},
		{protocol: api.CC, state: api.Completed, kind: api.Complete, send: api.IsCompleted},
		{protocol: api.PC, state: api.Active, kind: api.Complete, fault: api.InvalidProtocol},
		{protocol: api.PC, state: api.Active, kind: api.Cancel, next: api.Canceling, work: api.Cancel},
		{protocol: api.CC, state: api.Completing, kind: api.Cancel, next: api.Canceling, work: api.Cancel},
		{protocol: api.PC, state: api.Canceling, kind: api.Cancel},
		{protocol: api.PC, state: api.Completed, kind: api.Cancel, send: api.IsCompleted},
		{protocol: api.PC, state: api.Exiting, kind: api.Cancel, send: api.Exit},
		{protocol: api.PC, state: api.NotCompleting, kind: api.Cancel, send: api.CannotComplete},
		{protocol: api.PC, state: api.FailingActive, kind: api.Cancel, send: api.Fail},
		{protocol: api.PC, state: api.Completed, kind: api.Close, next: api.Closing, work: api.Close},
		{protocol: api.PC, state: api.Closing, kind: api.Close},
		{protocol: api.PC, state: api.Compensating, kind: api.Close, fault: api.InvalidState},
		{protocol: api.PC, state: api.Completed, kind: api.Compensate, next: api.Compensating, work: api.Compensate},
		{protocol: api.PC, state: api.Closing, kind: api.Compensate, fault: api.InvalidState},
		{protocol: api.PC, state: api.FailingCompensating, kind: api.Compensate, send: api.Fail},
		{protocol: api.PC, state: api.FailingCanceling, kind: api.Failed, next: api.Ended, how: api.Fail},
		{protocol: api.PC, state: api.Exiting, kind: api.Exited, next: api.Ended, how: api.Exit},
		{protocol: api.CC, state: api.NotCompleting, kind: api.NotCompleted, next: api.Ended, how: api.CannotComplete},
		{protocol: api.CC, state: api.Active, kind: api.NotCompleted, fault: api.InvalidState},
	} {
		want := partner.Result{Work: c.work}
		if c.next != 0 {
			want.Facts = []facts.Fact{turned(0, c.next, c.how)}
		}
		if c.send != 0 {
			want.Send = []api.Message{from(c.send)}
		}
		if c.fault != 0 {
			want.Send = []api.Message{coded(from(api.Fault), c.fault)}
		}
		told(t, "one that is placed", one(t, c.protocol, c.state), to(c.kind), want)
		s := parts(t, c.protocol)
		apply(t, s, turned(0, c.state, 0))
		want.Facts = append([]facts.Fact{placed(0, 3)}, want.Facts...)
		told(t, "one that isn't placed", s, to(c.kind), want)
	}
	s := parts(t, api.PC)
	apply(t, s, placed(0, 3), turned(0, api.Ended, api.Closed))
	told(t, "one that has ended", s, to(api.Close), partner.Result{Send: []api.Message{from(api.Closed)}})
	told(t, "one that has ended", s, to(api.Compensate), partner.Result{Send: []api.Message{from(api.Compensated)}})
	told(t, "one that has ended", s, to(api.Failed), none)
}

// TestTellNothing is of kinds of which nothing comes.
func TestTellNothing(t *testing.T) {
	kinds := append(strange(), 0, api.Exit, api.IsCompleted, api.Fail, api.CannotComplete, api.Canceled, api.Closed, api.Compensated, api.Status, api.Register, 20)
	for _, kind := range kinds {
		if letter.Down(kind) {
			continue
		}
		for _, s := range []*store.Store{parts(t, api.PC), one(t, api.CC, api.Completed), made(t, 1)} {
			for code := range 6 {
				told(t, "a kind of which nothing comes", s, coded(to(kind), code), none)
			}
		}
	}
}

// TestTellWhatDoesntFit is of messages that fit but for one thing.
func TestTellWhatDoesntFit(t *testing.T) {
	s := parts(t, api.CC, api.PC, api.CC)
	apply(t, s, joined(3, api.Act{Node: 2, Seq: 8}, api.CC), joined(4, api.Act{Node: 3, Seq: 7}, api.CC), placed(0, 3), placed(1, 2))
	away := made(t, 0, s.Facts()...)
	for _, part := range []int{0, 2} {
		for _, kind := range []int{api.Complete, api.Close, api.Cancel, api.Compensate, api.Failed, api.Exited, api.NotCompleted, api.GetStatus, api.Registered, api.Fault, api.Status, api.Exit} {
			good := coded(to(kind), api.CannotRegister)
			good.Part = part
			for _, c := range []struct {
				what   string
				change func(m *api.Message)
				placed bool // it doesn't fit just where the participant is placed
			}{
				{"From another node", func(m *api.Message) { m.From = 3 }, false},
				{"From its own node", func(m *api.Message) { m.From = 1 }, false},
				{"To another node", func(m *api.Message) { m.To = 0 }, false},
				{"To the activity's node", func(m *api.Message) { m.To = 2 }, false},
				{"another activity of the node", func(m *api.Message) { m.Act.Seq = 8 }, false},
				{"another node's activity", func(m *api.Message) { m.Act.Node = 3 }, false},
				{"another node's activity, from there", func(m *api.Message) { m.Act.Node, m.From = 3, 3 }, false},
				{"another activity's participant", func(m *api.Message) { m.Part = 3 }, false},
				{"another node's activity's participant", func(m *api.Message) { m.Part = 4 }, false},
				{"no participant", func(m *api.Message) { m.Part = 5 }, false},
				{"a participant below 0", func(m *api.Message) { m.Part = -1 }, false},
				{"another one's registration", func(m *api.Message) { m.Reg = 2 }, true},
				{"the registration 0", func(m *api.Message) { m.Reg = 0 }, true},
				{"the registration -1", func(m *api.Message) { m.Reg = -1 }, true},
			} {
				m := good
				c.change(&m)
				if c.placed && part == 2 {
					tells(t, s, m)
					continue
				}
				told(t, c.what, s, m, strangeness(m))
			}
			told(t, "the same store at another node", away, good, strangeness(good))
		}
	}
}

// strangeness is what comes of a message that doesn't fit.
func strangeness(m api.Message) partner.Result {
	if !letter.Down(m.Kind) && m.Kind != api.GetStatus {
		return none
	}
	return partner.Result{Send: []api.Message{{Kind: api.Fault, From: m.To, To: m.From, Act: m.Act, Reg: m.Reg, Part: m.Part, Code: api.InvalidParameters}}}
}

// TestTellOfNoRegistration is of one that isn't placed, and told as a registration that there can't be: it fits all the same.
func TestTellOfNoRegistration(t *testing.T) {
	for _, reg := range []int{-1, -2, 6, 7, 255, 256, 1 << 32, 1<<32 + 3, 1 << 40, math.MaxInt, math.MinInt} {
		as := func(m api.Message) api.Message {
			m.Reg = reg
			return m
		}
		for _, c := range []struct {
			what                  string
			protocol, state, kind int
			want                  partner.Result // behind the Placed
		}{
			{"work", api.CC, api.Active, api.Complete, partner.Result{Facts: []facts.Fact{turned(0, api.Completing, 0)}, Work: api.Complete}},
			{"work", api.PC, api.Active, api.Cancel, partner.Result{Facts: []facts.Fact{turned(0, api.Canceling, 0)}, Work: api.Cancel}},
			{"work", api.PC, api.Completed, api.Close, partner.Result{Facts: []facts.Fact{turned(0, api.Closing, 0)}, Work: api.Close}},
			{"work", api.CC, api.Completed, api.Compensate, partner.Result{Facts: []facts.Fact{turned(0, api.Compensating, 0)}, Work: api.Compensate}},
			{"its end", api.PC, api.FailingActive, api.Failed, partner.Result{Facts: []facts.Fact{turned(0, api.Ended, api.Fail)}}},
			{"its end", api.PC, api.Exiting, api.Exited, partner.Result{Facts: []facts.Fact{turned(0, api.Ended, api.Exit)}}},
			{"its end", api.CC, api.NotCompleting, api.NotCompleted, partner.Result{Facts: []facts.Fact{turned(0, api.Ended, api.CannotComplete)}}},
			{"what is ignored", api.PC, api.Canceling, api.Cancel, none},
			{"what it sends again", api.PC, api.Completed, api.Cancel, partner.Result{Send: []api.Message{as(from(api.IsCompleted))}}},
			{"what it sends again", api.CC, api.FailingCompensating, api.Compensate, partner.Result{Send: []api.Message{as(from(api.Fail))}}},
			{"a fault", api.PC, api.Active, api.Complete, partner.Result{Send: []api.Message{coded(as(from(api.Fault)), api.InvalidProtocol)}}},
			{"a fault", api.PC, api.Active, api.Close, partner.Result{Send: []api.Message{coded(as(from(api.Fault)), api.InvalidState)}}},
		} {
			s := parts(t, c.protocol)
			apply(t, s, turned(0, c.state, 0))
			c.want.Facts = append([]facts.Fact{placed(0, reg)}, c.want.Facts...)
			told(t, c.what, s, as(to(c.kind)), c.want)
			// One that is placed isn't placed as that.
			told(t, "one that is placed", one(t, c.protocol, c.state), as(to(c.kind)), strangeness(as(to(c.kind))))
		}
		s := parts(t, api.PC)
		told(t, "GetStatus", s, as(to(api.GetStatus)), partner.Result{Send: []api.Message{coded(as(from(api.Status)), api.Active)}})
		told(t, "Fault", s, as(fault(api.CannotRegister)), partner.Result{Facts: []facts.Fact{turned(0, api.Ended, api.Exit)}})
		apply(t, s, turned(0, api.Ended, api.Closed))
		told(t, "one that has ended", s, as(to(api.Close)), partner.Result{Facts: []facts.Fact{placed(0, reg)}, Send: []api.Message{as(from(api.Closed))}})
	}
}

// TestOwnActivity is of a participant of its own node's activity.
func TestOwnActivity(t *testing.T) {
	act := api.Act{Node: 1, Seq: 0}
	s := made(t, 1, facts.Fact{Kind: facts.Opened, Act: act, Outcome: api.Atomic, Expires: 9}, joined(0, act, api.PC), facts.Fact{Kind: facts.Enrolled, Act: act, Node: 1, Protocol: api.PC})
	m := api.Message{Kind: api.Cancel, From: 1, To: 1, Act: act}
	told(t, "Cancel", s, m, partner.Result{Facts: []facts.Fact{placed(0, 0), turned(0, api.Canceling, 0)}, Work: api.Cancel})
	m.Kind = api.GetStatus
	told(t, "GetStatus", s, m, partner.Result{Send: []api.Message{{Kind: api.Status, From: 1, To: 1, Act: act, Code: api.Active}}})
	if partner.Asked(s, m) {
		t.Error("a GetStatus to the activity's node is asked of a participant")
	}
}

// TestNoStore is of a store that is nil: nothing panics, and nobody is known.
func TestNoStore(t *testing.T) {
	c := api.Context{Act: far, Outcome: api.Atomic, Expires: 9}
	refuses(t, "nil", nil, c, api.PC, 0, api.ErrPanic)
	refuses(t, "nil", nil, c, 0, 0, api.ErrForm)
	refuses(t, "nil", nil, c, api.PC, 9, api.ErrExpired)
	denies(t, "nil", nil, 0, api.Exit, api.ErrNone)
	if m, there := partner.Again(nil, 0); there || m != (api.Message{}) {
		t.Errorf("Again answers %+v, %v", m, there)
	}
	for kind := range 21 {
		answers(t, "nil", partner.Tell(nil, to(kind)), strangeness(to(kind)))
		if got := partner.Asked(nil, to(kind)); got != wordsAsked(to(kind)) {
			t.Errorf("Asked of kind %d answers %v", kind, got)
		}
	}
}

// TestAnswersAreTheCallers changes what was answered, and asks again.
func TestAnswersAreTheCallers(t *testing.T) {
	s := parts(t, api.CC)
	c := api.Context{Act: far, Outcome: api.Atomic, Expires: 9}
	for what, ask := range map[string]func() partner.Result{
		"Join":   func() partner.Result { r, _ := partner.Join(s, c, api.PC, 0); return r },
		"Tell":   func() partner.Result { return partner.Tell(s, to(api.Cancel)) },
		"Status": func() partner.Result { return partner.Tell(s, to(api.GetStatus)) },
		"Fault":  func() partner.Result { return partner.Tell(s, to(api.Close)) },
	} {
		first := ask()
		was, knew := text(first), knows(s)
		for i := range first.Facts {
			first.Facts[i] = facts.Fact{Kind: 99}
		}
		for i := range first.Send {
			first.Send[i] = api.Message{Kind: 99}
		}
		if second := ask(); text(second) != was || knows(s) != knew {
			t.Errorf("%s answers %s behind a change of %s", what, text(second), was)
		}
	}
}
