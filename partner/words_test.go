package partner_test

import (
	"fmt"
	"math"
	"slices"
	"testing"

	"liaison/api"
	"liaison/facts"
	"liaison/letter"
	"liaison/moves"
	"liaison/partner"
	"liaison/store"
)

// The chapter's words, told anew: what the package answers is held against them. Layer 11's seats are taken as they are.

// is tells whether an error is the very one that is wanted, nil too.
func is(err, want error) bool {
	if err == nil || want == nil {
		return err == nil && want == nil
	}
	return err == want
}

// dice answers numbers that are spread, the same ones each time.
func dice(seed uint64) func(below int) int {
	return func(below int) int {
		seed = seed*6364136223846793005 + 1442695040888963407
		return int(seed>>33) % below
	}
}

// text is a result as a text; a list of none and no list are the same.
func text(r partner.Result) string {
	return fmt.Sprintf("%+v %+v %d", r.Facts, r.Send, r.Work)
}

// knows is all that a store tells, as a text.
func knows(s *store.Store) string {
	return fmt.Sprintf("%d %d\n%+v\n%+v\n%+v", s.Node(), s.Next(), s.Activities(), s.Parts(), s.Facts())
}

// right tells whether a context is right.
func right(c api.Context) bool {
	bits := math.Float64bits(c.Expires)
	return c.Act.Node >= 0 && c.Act.Node <= 3 && c.Act.Seq >= 0 && c.Act.Seq <= 999999 &&
		(c.Outcome == 1 || c.Outcome == 2) && c.Depth >= 0 && c.Depth <= 3 && bits <= 0x7FF0000000000000
}

// wordsJoin is what comes of Join.
func wordsJoin(s *store.Store, c api.Context, protocol int, now float64) (partner.Result, error) {
	if !right(c) || protocol != 1 && protocol != 2 {
		return partner.Result{}, api.ErrForm
	}
	if !(now >= 0 && now < c.Expires) {
		return partner.Result{}, api.ErrExpired
	}
	next := len(s.Parts())
	if next == 8 {
		return partner.Result{}, api.ErrFull
	}
	return partner.Result{
		Facts: []facts.Fact{{Kind: 6, Part: next, Act: c.Act, Protocol: protocol}},
		Send:  []api.Message{{Kind: 17, From: s.Node(), To: c.Act.Node, Act: c.Act, Part: next, Protocol: protocol}},
	}, nil
}

// part is the participant of a number, and whether there is one.
func part(s *store.Store, number int) (store.Part, bool) {
	for i, p := range s.Parts() {
		if i == number {
			return p, true
		}
	}
	return store.Part{}, false
}

// wordsDo is what comes of Do.
func wordsDo(s *store.Store, number, kind int) (partner.Result, error) {
	p, there := part(s, number)
	if !there {
		return partner.Result{}, api.ErrNone
	}
	if p.Reg == -1 {
		return partner.Result{}, api.ErrState
	}
	e, err := p.Seat.Do(kind)
	if err != nil {
		return partner.Result{}, err
	}
	return partner.Result{
		Facts: []facts.Fact{{Kind: 8, Part: number, State: e.Seat.State, How: e.Seat.How}},
		Send:  []api.Message{{Kind: kind, From: s.Node(), To: p.Act.Node, Act: p.Act, Reg: p.Reg, Part: number}},
		Work:  e.Work,
	}, nil
}

// wordsAgain is what comes of Again.
func wordsAgain(s *store.Store, number int) (api.Message, bool) {
	p, there := part(s, number)
	if !there {
		return api.Message{}, false
	}
	m := api.Message{Kind: p.Seat.Waits(), From: s.Node(), To: p.Act.Node, Act: p.Act, Reg: p.Reg, Part: number}
	if p.Reg == -1 {
		if p.Seat.State != 1 {
			return api.Message{}, false
		}
		m.Kind, m.Reg, m.Protocol = 17, 0, p.Seat.Protocol
	}
	if m.Kind == 0 {
		return api.Message{}, false
	}
	return m, true
}

// down is the kinds that go Down.
var down = []int{2, 9, 10, 11, 12, 13, 14}

// wordsAsked is what Asked answers.
func wordsAsked(m api.Message) bool {
	return slices.Contains(down, m.Kind) || slices.Contains([]int{16, 18, 19}, m.Kind) || m.Kind == 15 && m.To != m.Act.Node
}

// reply is a message's answer.
func reply(m api.Message, kind, code int) api.Message {
	return api.Message{Kind: kind, From: m.To, To: m.From, Act: m.Act, Reg: m.Reg, Part: m.Part, Code: code}
}

// wordsTell is what comes of Tell, whatever Reg is: whether there can be such a registration is nothing that fitting asks.
func wordsTell(s *store.Store, m api.Message) (r partner.Result) {
	p, there := part(s, m.Part)
	fits := there && p.Act == m.Act && m.From == p.Act.Node && m.To == s.Node() && (p.Reg == -1 || p.Reg == m.Reg)
	placing := fits && p.Reg == -1
	places := facts.Fact{Kind: 7, Part: m.Part, Reg: m.Reg}
	strange := partner.Result{Send: []api.Message{reply(m, 19, 3)}}
	switch {
	case m.Kind == 18:
		if placing {
			r.Facts = []facts.Fact{places}
		}
	case m.Kind == 19:
		if placing && p.Seat.State == 1 && (m.Code == 2 || m.Code == 4 || m.Code == 5) {
			r.Facts = []facts.Fact{{Kind: 8, Part: m.Part, State: 14, How: 1}}
		}
	case m.Kind == 15:
		if !fits {
			return strange
		}
		r.Send = []api.Message{reply(m, 16, p.Seat.State)}
	case slices.Contains(down, m.Kind):
		if !fits {
			return strange
		}
		if placing {
			r.Facts = append(r.Facts, places)
		}
		e, err := p.Seat.Tell(m.Kind)
		if err != nil {
			panic(err)
		}
		if e.Changed {
			r.Facts = append(r.Facts, facts.Fact{Kind: 8, Part: m.Part, State: e.Seat.State, How: e.Seat.How})
		}
		if e.Send != 0 {
			r.Send = append(r.Send, api.Message{Kind: e.Send, From: s.Node(), To: p.Act.Node, Act: p.Act, Reg: m.Reg, Part: m.Part})
		}
		if e.Fault != 0 {
			r.Send = append(r.Send, reply(m, 19, e.Fault))
		}
		r.Work = e.Work
	}
	return r
}

// fit fails if a result's facts don't fit the store (P16.2); it answers a store that knows what this one does, and then them.
func fit(t *testing.T, s *store.Store, list []facts.Fact) *store.Store {
	t.Helper()
	rows, err := facts.Rows(append(s.Facts(), list...)...)
	if err != nil {
		t.Fatalf("behind\n%s\nof the facts %+v there are no rows: %v", knows(s), list, err)
	}
	next, err := store.Replay(s.Node(), rows)
	if err != nil {
		t.Fatalf("behind\n%s\nthe facts %+v don't fit: %v", knows(s), list, err)
	}
	return next
}

// knowable tells whether facts are right: a Placed as no registration is what no store takes.
func knowable(list []facts.Fact) bool {
	return !slices.ContainsFunc(list, func(f facts.Fact) bool { return !f.Right() })
}

// numbered is facts, with the registration 0 for one that there can't be. It fails if another fact isn't right, or if such a Placed is taken by a store.
func numbered(t *testing.T, s *store.Store, list []facts.Fact) []facts.Fact {
	t.Helper()
	list = slices.Clone(list)
	for i, f := range list {
		if f.Right() {
			continue
		}
		if f.Kind != 7 || f.Reg >= 0 && f.Reg <= 5 {
			t.Fatalf("the fact %+v isn't right", f)
		}
		still := stays(t, s)
		if err := s.Apply(f); !is(err, api.ErrForm) {
			t.Fatalf("Apply of %+v answers %v", f, err)
		}
		still()
		list[i].Reg = 0
	}
	return list
}

// stays is what fails if a store isn't any more as it was when stays was called.
func stays(t *testing.T, s *store.Store) func() {
	was := knows(s)
	return func() {
		t.Helper()
		if now := knows(s); now != was {
			t.Fatalf("there is\n%s\nof\n%s", now, was)
		}
	}
}

// tells fails if Tell doesn't answer what the words do, or its facts don't fit; it answers the result.
func tells(t *testing.T, s *store.Store, m api.Message) partner.Result {
	t.Helper()
	got, want := partner.Tell(s, m), wordsTell(s, m)
	if text(got) != text(want) {
		t.Fatalf("behind\n%s\nTell of %+v answers\n%s\nnot\n%s", knows(s), m, text(got), text(want))
	}
	if got := partner.Asked(s, m); got != wordsAsked(m) {
		t.Fatalf("Asked of %+v answers %v", m, got)
	}
	if len(got.Facts) > 0 {
		fit(t, s, numbered(t, s, got.Facts))
	}
	for _, sent := range got.Send {
		if letter.Right(m) && !letter.Right(sent) {
			t.Fatalf("Tell of %+v, which is right, answers %+v, which isn't", m, sent)
		}
	}
	return got
}

// does fails if Do doesn't answer what the words do, or its facts don't fit; it answers whether there was no error.
func does(t *testing.T, s *store.Store, number, kind int) bool {
	t.Helper()
	got, err := partner.Do(s, number, kind)
	want, wantErr := wordsDo(s, number, kind)
	if text(got) != text(want) || !is(err, wantErr) {
		t.Fatalf("behind\n%s\nDo of %d, %d answers\n%s, %v\nnot\n%s, %v", knows(s), number, kind, text(got), err, text(want), wantErr)
	}
	if err != nil {
		return false
	}
	next, there := part(fit(t, s, got.Facts), number)
	if e, err := mustPart(t, s, number).Seat.Do(kind); err != nil || !there || next.Seat != e.Seat {
		t.Fatalf("behind Do of %d, %d there is %+v, not %+v", number, kind, next, e.Seat)
	}
	return true
}

// mustPart is a participant that there is.
func mustPart(t *testing.T, s *store.Store, number int) store.Part {
	t.Helper()
	p, there := part(s, number)
	if !there {
		t.Fatalf("there is no participant %d", number)
	}
	return p
}

// joins fails if Join doesn't answer what the words do, or its facts don't fit; it answers the error.
func joins(t *testing.T, s *store.Store, c api.Context, protocol int, now float64) error {
	t.Helper()
	got, err := partner.Join(s, c, protocol, now)
	want, wantErr := wordsJoin(s, c, protocol, now)
	if text(got) != text(want) || !is(err, wantErr) {
		t.Fatalf("behind\n%s\nJoin of %+v, %d, %g answers\n%s, %v\nnot\n%s, %v", knows(s), c, protocol, now, text(got), err, text(want), wantErr)
	}
	if err == nil {
		next := fit(t, s, got.Facts)
		seat := moves.Seat{Protocol: protocol, Side: api.Participant, State: api.Active}
		if p := mustPart(t, next, len(s.Parts())); p != (store.Part{Act: c.Act, Reg: -1, Seat: seat}) {
			t.Fatalf("behind Join of %+v, %d there is %+v", c, protocol, p)
		}
		again, there := partner.Again(next, len(s.Parts()))
		if !there || again != got.Send[0] {
			t.Fatalf("behind Join of %+v, %d what is sent again is %+v, %v", c, protocol, again, there)
		}
	}
	return err
}

// sends fails if Again doesn't answer what the words do; it answers whether there is something.
func sends(t *testing.T, s *store.Store, number int) bool {
	t.Helper()
	got, there := partner.Again(s, number)
	if want, wanted := wordsAgain(s, number); got != want || there != wanted {
		t.Fatalf("behind\n%s\nAgain of %d answers %+v, %v, not %+v, %v", knows(s), number, got, there, want, wanted)
	}
	return there
}
