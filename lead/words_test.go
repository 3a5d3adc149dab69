package lead_test

import (
	"fmt"
	"math"
	"slices"
	"testing"

	"liaison/api"
	"liaison/facts"
	"liaison/lead"
	"liaison/letter"
	"liaison/moves"
	"liaison/partner"
	"liaison/store"
)

// The chapter's words, told anew: what the package answers is held against them. Layer 11's seats are taken as they are.

// is tells whether an error is the very one that is wanted, nil too.
func is(err, want error) bool {
	if err == nil || want == nil {
		return err == nil && want == nil
	}
	return err == want
}

// dice answers numbers that are spread, the same ones each time.
func dice(seed uint64) func(below int) int {
	return func(below int) int {
		seed = seed*6364136223846793005 + 1442695040888963407
		return int(seed>>33) % below
	}
}

// text is a result as a text; a list of none and no list are the same.
func text(r partner.Result) string {
	return fmt.Sprintf("%+v %+v %d", r.Facts, r.Send, r.Work)
}

// knows is all that a store tells, as a text.
func knows(s *store.Store) string {
	return fmt.Sprintf("%d %d\n%+v\n%+v\n%+v", s.Node(), s.Next(), s.Activities(), s.Parts(), s.Facts())
}

// same tells whether contexts are the same, by each bit of Expires.
func same(a, b api.Context) bool {
	bits := math.Float64bits(a.Expires) == math.Float64bits(b.Expires)
	a.Expires, b.Expires = 0, 0
	return bits && a == b
}

// right tells whether a context is right.
func right(c api.Context) bool {
	bits := math.Float64bits(c.Expires)
	return c.Act.Node >= 0 && c.Act.Node <= 3 && c.Act.Seq >= 0 && c.Act.Seq <= 999999 &&
		(c.Outcome == 1 || c.Outcome == 2) && c.Depth >= 0 && c.Depth <= 3 && bits <= 0x7FF0000000000000
}

// part is the participant of a number, and whether there is one.
func part(s *store.Store, number int) (store.Part, bool) {
	for i, p := range s.Parts() {
		if i == number {
			return p, true
		}
	}
	return store.Part{}, false
}

// activity is an activity, and whether there is one.
func activity(s *store.Store, a api.Act) (store.Activity, bool) {
	for _, one := range s.Activities() {
		if one.Context.Act == a {
			return one, true
		}
	}
	return store.Activity{}, false
}

// reg is the registration of a number, and whether there is one.
func reg(a store.Activity, number int) (store.Reg, bool) {
	for i, r := range a.Regs {
		if i == number {
			return r, true
		}
	}
	return store.Reg{}, false
}

// full tells whether a node may open no activity more.
func full(s *store.Store) bool {
	return len(s.Activities()) == 8 || s.Next() == 1000000
}

// openedAs is the fact of a context's activity with a Parent.
func openedAs(c api.Context, parent int) partner.Result {
	return partner.Result{Facts: []facts.Fact{{Kind: 1, Act: c.Act, Outcome: c.Outcome, Depth: c.Depth, Expires: c.Expires, Parent: parent}}}
}

// wordsOpen is what comes of Open.
func wordsOpen(s *store.Store, outcome int, now, lasts float64) (partner.Result, api.Context, error) {
	if full(s) {
		return partner.Result{}, api.Context{}, api.ErrFull
	}
	if outcome != 1 && outcome != 2 || !(now >= 0) || !(lasts >= 0) {
		return partner.Result{}, api.Context{}, api.ErrForm
	}
	// What is added to a zero that isn't minus zero isn't minus zero.
	c := api.Context{Act: api.Act{Node: s.Node(), Seq: s.Next()}, Outcome: outcome, Expires: 0 + now + lasts}
	return openedAs(c, 0), c, nil
}

// working tells whether a participant's seat is Active or Completing.
func working(p store.Part) bool {
	return p.Seat.State == 1 || p.Seat.State == 4
}

// wordsNest is what comes of Nest.
func wordsNest(s *store.Store, number int, c api.Context) (r partner.Result, child api.Context, err error) {
	p, there := part(s, number)
	below := slices.ContainsFunc(s.Activities(), func(a store.Activity) bool { return a.Parent != 0 && a.Parent == number+1 })
	switch {
	case !there:
		return r, child, api.ErrNone
	case !right(c) || c.Act != p.Act:
		return r, child, api.ErrForm
	case !working(p) || below:
		return r, child, api.ErrState
	case full(s):
		return r, child, api.ErrFull
	case c.Depth == 3:
		return r, child, api.ErrDepth
	}
	child = api.Context{Act: api.Act{Node: s.Node(), Seq: s.Next()}, Outcome: 1, Depth: c.Depth + 1, Expires: c.Expires}
	return openedAs(child, number+1), child, nil
}

// wordsTakes is whether an activity takes registrations.
func wordsTakes(s *store.Store, act api.Act, now float64) bool {
	a, there := activity(s, act)
	if !there || !(now >= 0 && now < a.Context.Expires) || a.Decision != 0 || len(a.Regs) == 6 {
		return false
	}
	if a.Parent != 0 {
		p, _ := part(s, a.Parent-1)
		return working(p)
	}
	return true
}

// wordsMessage is the message of a kind to a registration, and whether there is one.
func wordsMessage(s *store.Store, act api.Act, number, kind int) (api.Message, bool) {
	a, _ := activity(s, act)
	r, there := reg(a, number)
	if !there {
		return api.Message{}, false
	}
	return api.Message{Kind: kind, From: s.Node(), To: r.Node, Act: act, Reg: number, Part: r.Part}, true
}

// wordsAgain is what is sent again.
func wordsAgain(s *store.Store, act api.Act, number int) (api.Message, bool) {
	a, _ := activity(s, act)
	r, _ := reg(a, number)
	kind := r.Seat.Waits()
	if kind == 0 {
		return api.Message{}, false
	}
	return wordsMessage(s, act, number, kind)
}

// seatedAs is the fact of a registration's seat.
func seatedAs(act api.Act, number int, seat moves.Seat) facts.Fact {
	return facts.Fact{Kind: 3, Act: act, Reg: number, State: seat.State, How: seat.How}
}

// wordsDirect is what comes of Direct.
func wordsDirect(s *store.Store, act api.Act, number, kind int) (partner.Result, error) {
	a, there := activity(s, act)
	if !there {
		return partner.Result{}, api.ErrNone
	}
	r, there := reg(a, number)
	if !there {
		return partner.Result{}, api.ErrRange
	}
	if kind != 2 && kind != 9 && kind != 10 && kind != 11 {
		return partner.Result{}, api.ErrForm
	}
	if a.Context.Outcome == 1 && kind != 2 {
		return partner.Result{}, api.ErrState
	}
	e, err := r.Seat.Do(kind)
	if err != nil {
		return partner.Result{}, err
	}
	m, _ := wordsMessage(s, act, number, kind)
	return partner.Result{Facts: []facts.Fact{seatedAs(act, number, e.Seat)}, Send: []api.Message{m}}, nil
}

// wordsForget is what comes of Forget.
func wordsForget(s *store.Store, act api.Act) (partner.Result, error) {
	a, there := activity(s, act)
	if !there {
		return partner.Result{}, api.ErrNone
	}
	for _, r := range a.Regs {
		if r.Seat.State != 14 || a.Context.Outcome == 1 && a.Decision == 0 {
			return partner.Result{}, api.ErrState
		}
	}
	return partner.Result{Facts: []facts.Fact{{Kind: 5, Act: act}}}, nil
}

// reply is a message's answer, as a result.
func reply(m api.Message, kind, code int) partner.Result {
	return partner.Result{Send: []api.Message{{Kind: kind, From: m.To, To: m.From, Act: m.Act, Reg: m.Reg, Part: m.Part, Code: code}}}
}

// wordsRegister is what comes of a Register.
func wordsRegister(s *store.Store, m api.Message, now float64) partner.Result {
	a, there := activity(s, m.Act)
	if !there {
		return reply(m, 19, 5)
	}
	r := reply(m, 18, 0)
	r.Send[0].Protocol = m.Protocol
	for i, one := range a.Regs {
		if one.Node == m.From && one.Part == m.Part {
			if one.Seat.Protocol != m.Protocol {
				return reply(m, 19, 2)
			}
			r.Send[0].Reg = i
			return r
		}
	}
	if !wordsTakes(s, m.Act, now) {
		return reply(m, 19, 4)
	}
	r.Send[0].Reg = len(a.Regs)
	r.Facts = []facts.Fact{{Kind: 2, Act: m.Act, Reg: len(a.Regs), Node: m.From, Part: m.Part, Protocol: m.Protocol}}
	return r
}

// up is the kinds that go Up, and what is sent again of them in Ended by PC, 0 if nothing.
var up = map[int]int{1: 13, 3: 0, 4: 12, 5: 14, 6: 0, 7: 0, 8: 0}

// wordsTell is what comes of Tell.
func wordsTell(s *store.Store, m api.Message, now float64) partner.Result {
	again, isUp := up[m.Kind]
	if m.To != s.Node() || !isUp && m.Kind != 15 && m.Kind != 17 {
		return partner.Result{}
	}
	if m.Kind == 17 {
		return wordsRegister(s, m, now)
	}
	a, there := activity(s, m.Act)
	if !there {
		switch {
		case m.Act.Node != s.Node() || m.Act.Seq < 0 || m.Act.Seq >= s.Next():
			return reply(m, 19, 5)
		case m.Kind == 15:
			return reply(m, 16, 14)
		case again != 0:
			return reply(m, again, 0)
		}
		return partner.Result{}
	}
	r, there := reg(a, m.Reg)
	if !there || r.Node != m.From || r.Part != m.Part {
		return reply(m, 19, 3)
	}
	if m.Kind == 15 {
		return reply(m, 16, r.Seat.State)
	}
	return wordsTold(s, a, r, m)
}

// wordsTold is what comes of a registration's seat being told a kind.
func wordsTold(s *store.Store, a store.Activity, r store.Reg, m api.Message) (result partner.Result) {
	e, err := r.Seat.Tell(m.Kind)
	if err != nil {
		panic(err)
	}
	if a.Decision == 2 && r.Seat.State != 5 && e.Seat.State == 5 {
		e.Seat.State, e.Send = 7, 11
	}
	if e.Changed {
		result.Facts = []facts.Fact{seatedAs(m.Act, m.Reg, e.Seat)}
	}
	if e.Send != 0 {
		sent, _ := wordsMessage(s, m.Act, m.Reg, e.Send)
		result.Send = append(result.Send, sent)
	}
	if e.Fault != 0 {
		result.Send = append(result.Send, reply(m, 19, e.Fault).Send...)
	}
	return result
}

// fit fails if a result's facts don't fit the store (P17.2); it answers a store that knows what this one does, and then them.
func fit(t *testing.T, s *store.Store, list []facts.Fact) *store.Store {
	t.Helper()
	rows, err := facts.Rows(append(s.Facts(), list...)...)
	if err != nil {
		t.Fatalf("behind\n%s\nof the facts %+v there are no rows: %v", knows(s), list, err)
	}
	next, err := store.Replay(s.Node(), rows)
	if err != nil {
		t.Fatalf("behind\n%s\nthe facts %+v don't fit: %v", knows(s), list, err)
	}
	return next
}

// knowable tells whether facts are right: an Enrolled of no participant, or by no protocol, is what no store takes.
func knowable(list []facts.Fact) bool {
	return !slices.ContainsFunc(list, func(f facts.Fact) bool { return !f.Right() })
}

// stays is what fails if a store isn't any more as it was when stays was called.
func stays(t *testing.T, s *store.Store) func() {
	was := knows(s)
	return func() {
		t.Helper()
		if now := knows(s); now != was {
			t.Fatalf("there is\n%s\nof\n%s", now, was)
		}
	}
}

// opens fails if Open doesn't answer what the words do, or its facts don't fit; it answers the error.
func opens(t *testing.T, s *store.Store, outcome int, now, lasts float64) error {
	t.Helper()
	got, c, err := lead.Open(s, outcome, now, lasts)
	want, wantContext, wantErr := wordsOpen(s, outcome, now, lasts)
	if text(got) != text(want) || !same(c, wantContext) || !is(err, wantErr) {
		t.Fatalf("behind\n%s\nOpen of %d, %g, %g answers\n%s, %+v, %v\nnot\n%s, %+v, %v", knows(s), outcome, now, lasts, text(got), c, err, text(want), wantContext, wantErr)
	}
	if err == nil {
		begun(t, s, got, c, 0)
	}
	return err
}

// nests fails if Nest doesn't answer what the words do, or its facts don't fit; it answers the error.
func nests(t *testing.T, s *store.Store, number int, c api.Context) error {
	t.Helper()
	got, child, err := lead.Nest(s, number, c)
	want, wantChild, wantErr := wordsNest(s, number, c)
	if text(got) != text(want) || !same(child, wantChild) || !is(err, wantErr) {
		t.Fatalf("behind\n%s\nNest of %d, %+v answers\n%s, %+v, %v\nnot\n%s, %+v, %v", knows(s), number, c, text(got), child, err, text(want), wantChild, wantErr)
	}
	if err == nil {
		begun(t, s, got, child, number+1)
		if below, there := fit(t, s, got.Facts).Child(number); !there || !same(below.Context, child) {
			t.Fatalf("behind Nest of %d, %+v there is %+v, %v below it", number, c, below, there)
		}
	}
	return err
}

// begun fails if behind a result's facts there isn't this activity, without registrations, as the last one.
func begun(t *testing.T, s *store.Store, r partner.Result, c api.Context, parent int) {
	t.Helper()
	next := fit(t, s, r.Facts)
	a, there := activity(next, c.Act)
	if !there || !same(a.Context, c) || a.Parent != parent || a.Decision != 0 || len(a.Regs) != 0 || len(next.Activities()) != len(s.Activities())+1 || next.Next() != s.Next()+1 {
		t.Fatalf("behind\n%s\nand %s there is\n%s", knows(s), text(r), knows(next))
	}
}

// tells fails if Tell doesn't answer what the words do, or its facts don't fit; it answers the result.
func tells(t *testing.T, s *store.Store, m api.Message, now float64) partner.Result {
	t.Helper()
	got, want := lead.Tell(s, m, now), wordsTell(s, m, now)
	if text(got) != text(want) {
		t.Fatalf("behind\n%s\nTell of %+v, %g answers\n%s\nnot\n%s", knows(s), m, now, text(got), text(want))
	}
	if !knowable(got.Facts) {
		wrong(t, s, m, got.Facts)
	} else if len(got.Facts) > 0 {
		fit(t, s, got.Facts)
	}
	for _, sent := range got.Send {
		if letter.Right(m) && !letter.Right(sent) {
			t.Fatalf("Tell of %+v, which is right, answers %+v, which isn't", m, sent)
		}
	}
	return got
}

// wrong fails if facts that aren't right are of a message that is, are more than one Enrolled of what there can't be, or are taken by a store, or would not be if they were right.
func wrong(t *testing.T, s *store.Store, m api.Message, list []facts.Fact) {
	t.Helper()
	if letter.Right(m) || len(list) != 1 || list[0].Kind != 2 {
		t.Fatalf("Tell of %+v answers %+v", m, list)
	}
	still := stays(t, s)
	if err := s.Apply(list[0]); !is(err, api.ErrForm) {
		t.Fatalf("Apply of %+v answers %v", list[0], err)
	}
	still()
	f := list[0]
	f.Protocol = 1
	a, _ := activity(s, f.Act)
	for f.Node, f.Part = 0, 0; slices.ContainsFunc(a.Regs, func(r store.Reg) bool { return r.Node == f.Node && r.Part == f.Part }); {
		f.Part++
	}
	fit(t, s, []facts.Fact{f})
}

// directs fails if Direct doesn't answer what the words do, or its facts don't fit; it answers the error.
func directs(t *testing.T, s *store.Store, act api.Act, number, kind int) error {
	t.Helper()
	got, err := lead.Direct(s, act, number, kind)
	want, wantErr := wordsDirect(s, act, number, kind)
	if text(got) != text(want) || !is(err, wantErr) {
		t.Fatalf("behind\n%s\nDirect of %+v, %d, %d answers\n%s, %v\nnot\n%s, %v", knows(s), act, number, kind, text(got), err, text(want), wantErr)
	}
	if err == nil {
		next := fit(t, s, got.Facts)
		if again, there := lead.Again(next, act, number); !there || again != got.Send[0] || !letter.Right(again) {
			t.Fatalf("behind Direct of %+v, %d, %d what is sent again is %+v, %v", act, number, kind, again, there)
		}
	}
	return err
}

// forgets fails if Forget doesn't answer what the words do, or its facts don't fit; it answers the error.
func forgets(t *testing.T, s *store.Store, act api.Act) error {
	t.Helper()
	got, err := lead.Forget(s, act)
	want, wantErr := wordsForget(s, act)
	if text(got) != text(want) || !is(err, wantErr) {
		t.Fatalf("behind\n%s\nForget of %+v answers\n%s, %v\nnot\n%s, %v", knows(s), act, text(got), err, text(want), wantErr)
	}
	if err == nil {
		if next := fit(t, s, got.Facts); next.Next() != s.Next() || len(next.Activities()) != len(s.Activities())-1 {
			t.Fatalf("behind Forget of %+v there is\n%s", act, knows(next))
		}
	}
	return err
}

// sends fails if Again, or Message of a kind, doesn't answer what the words do; it answers whether there is something to be sent again.
func sends(t *testing.T, s *store.Store, act api.Act, number, kind int) bool {
	t.Helper()
	m, there := lead.Message(s, act, number, kind)
	if want, wanted := wordsMessage(s, act, number, kind); m != want || there != wanted {
		t.Fatalf("behind\n%s\nMessage of %+v, %d, %d answers %+v, %v, not %+v, %v", knows(s), act, number, kind, m, there, want, wanted)
	}
	m, there = lead.Again(s, act, number)
	if want, wanted := wordsAgain(s, act, number); m != want || there != wanted {
		t.Fatalf("behind\n%s\nAgain of %+v, %d answers %+v, %v, not %+v, %v", knows(s), act, number, m, there, want, wanted)
	}
	return there
}

// takes fails if Takes doesn't answer what the words do; it answers it.
func takes(t *testing.T, s *store.Store, act api.Act, now float64) bool {
	t.Helper()
	got := lead.Takes(s, act, now)
	if got != wordsTakes(s, act, now) {
		t.Fatalf("behind\n%s\nTakes of %+v at %g answers %v", knows(s), act, now, got)
	}
	return got
}
