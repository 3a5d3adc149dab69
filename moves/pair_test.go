package moves_test

import (
	"math"
	"math/rand"
	"slices"
	"testing"

	"liaison/api"
	"liaison/moves"
)

// pair is a new pair.
func pair(t *testing.T, protocol int) *moves.Pair {
	t.Helper()
	p, err := moves.NewPair(protocol)
	if err != nil || p == nil {
		t.Fatalf("NewPair(%d) answers %v, %v", protocol, p, err)
	}
	return p
}

// must lets a side do a kind that it may do.
func must(t *testing.T, p *moves.Pair, side, kind int) {
	t.Helper()
	if err := p.Do(side, kind); err != nil {
		t.Fatalf("Do(%d, %d) answers %v", side, kind, err)
	}
}

// delivered delivers the i-th, and holds the effect against what is wanted.
func delivered(t *testing.T, p *moves.Pair, i int, copies bool, want moves.Effect) {
	t.Helper()
	if e, err := p.Deliver(i, copies); e != want || err != nil {
		t.Fatalf("Deliver(%d, %v) answers %+v, %v, not %+v", i, copies, e, err, want)
	}
}

// flies holds what is on its way against what is wanted.
func flies(t *testing.T, p *moves.Pair, want ...moves.Flying) {
	t.Helper()
	if list := p.Flight(); !slices.Equal(list, want) {
		t.Fatalf("%v is on its way, not %v", list, want)
	}
}

// up and down are kinds on their way to a coordinator, and to a participant.
func up(kind int) moves.Flying {
	return moves.Flying{To: api.Coordinator, Kind: kind}
}

func down(kind int) moves.Flying {
	return moves.Flying{To: api.Participant, Kind: kind}
}

// filled is a pair of PC with as many on their way as may be: Exit, again and again.
func filled(t *testing.T) *moves.Pair {
	t.Helper()
	p := pair(t, api.PC)
	must(t, p, api.Participant, api.Exit)
	for n := 1; n < api.MaxFlight; n++ {
		if !p.Again(api.Participant) {
			t.Fatalf("with %d on their way Again answers no", n)
		}
	}
	if n := len(p.Flight()); n != 64 {
		t.Fatalf("%d are on their way", n)
	}
	return p
}

// Tests of P11.1: pairs.

func TestNewPair(t *testing.T) {
	for _, protocol := range upTo(20) {
		p, err := moves.NewPair(protocol)
		if protocol != 1 && protocol != 2 {
			if p != nil || !is(err, api.ErrProtocol) {
				t.Errorf("NewPair(%d) answers %v, %v", protocol, p, err)
			}
			continue
		}
		if err != nil || !wordsOf(p).same(newWords(protocol)) {
			t.Errorf("NewPair(%d) answers %v, %v", protocol, p, err)
		}
		for _, side := range upTo(20) {
			s, want := p.Seat(side), moves.Seat{Protocol: protocol, Side: side, State: api.Active}
			if side != 1 && side != 2 {
				want = moves.Seat{}
			}
			if s != want {
				t.Errorf("Seat(%d) answers %+v", side, s)
			}
		}
	}
}

// TestCloses is the chapter's example, step by step.
func TestCloses(t *testing.T) {
	p := pair(t, api.PC)
	must(t, p, api.Participant, api.IsCompleted)
	flies(t, p, up(api.IsCompleted))
	delivered(t, p, 0, false, moves.Effect{Seat: pcCoordinator(api.Completed, 0), Changed: true})
	flies(t, p)
	must(t, p, api.Coordinator, api.Close)
	flies(t, p, down(api.Close))
	delivered(t, p, 0, false, moves.Effect{Seat: pcParticipant(api.Closing, 0), Work: api.Close, Changed: true})
	must(t, p, api.Participant, api.Closed)
	flies(t, p, up(api.Closed))
	delivered(t, p, 0, false, moves.Effect{Seat: pcCoordinator(api.Ended, api.Closed), Changed: true})
	flies(t, p)
	if p.Seat(api.Coordinator) != pcCoordinator(api.Ended, api.Closed) || p.Seat(api.Participant) != pcParticipant(api.Ended, api.Closed) {
		t.Errorf("the seats are %+v, %+v", p.Seat(api.Coordinator), p.Seat(api.Participant))
	}
}

// TestTurns delivers, copies and drops in the midst of others: what is sent is put behind them.
func TestTurns(t *testing.T) {
	p := pair(t, api.CC)
	must(t, p, api.Coordinator, api.Complete)
	must(t, p, api.Coordinator, api.Cancel)
	must(t, p, api.Participant, api.Fail)
	flies(t, p, down(api.Complete), down(api.Cancel), up(api.Fail))
	// A copy leaves what is delivered in its place.
	delivered(t, p, 1, true, moves.Effect{Seat: ccParticipant(api.FailingActive, 0), Send: api.Fail})
	flies(t, p, down(api.Complete), down(api.Cancel), up(api.Fail), up(api.Fail))
	delivered(t, p, 0, false, moves.Effect{Seat: ccParticipant(api.FailingActive, 0), Send: api.Fail})
	flies(t, p, down(api.Cancel), up(api.Fail), up(api.Fail), up(api.Fail))
	delivered(t, p, 1, true, moves.Effect{Seat: ccCoordinator(api.Ended, api.Fail), Send: api.Failed, Changed: true})
	flies(t, p, down(api.Cancel), up(api.Fail), up(api.Fail), up(api.Fail), down(api.Failed))
	if err := p.Drop(2); err != nil {
		t.Fatal(err)
	}
	flies(t, p, down(api.Cancel), up(api.Fail), up(api.Fail), down(api.Failed))
	delivered(t, p, 3, false, moves.Effect{Seat: ccParticipant(api.Ended, api.Fail), Changed: true})
	delivered(t, p, 2, false, moves.Effect{Seat: ccCoordinator(api.Ended, api.Fail), Send: api.Failed})
	flies(t, p, down(api.Cancel), up(api.Fail), down(api.Failed))
	delivered(t, p, 0, true, moves.Effect{Seat: ccParticipant(api.Ended, api.Fail), Send: api.Canceled})
	flies(t, p, down(api.Cancel), up(api.Fail), down(api.Failed), up(api.Canceled))
}

func TestAgain(t *testing.T) {
	p := pair(t, api.CC)
	for _, side := range upTo(20) {
		if p.Again(side) {
			t.Errorf("of Active seats Again(%d) answers yes", side)
		}
	}
	must(t, p, api.Coordinator, api.Complete)
	if err := p.Drop(0); err != nil || !p.Again(api.Coordinator) || !p.Again(api.Coordinator) || p.Again(api.Participant) {
		t.Errorf("Again of one that completes answers otherwise, %v", err)
	}
	flies(t, p, down(api.Complete), down(api.Complete))
	must(t, p, api.Participant, api.Exit)
	for _, side := range upTo(20) {
		if got := p.Again(side); got != (side == 1 || side == 2) {
			t.Errorf("Again(%d) answers %v", side, got)
		}
	}
	if n := len(p.Flight()); n != 5 {
		t.Errorf("%d are on their way", n)
	}
}

// TestFull tells which error goes ahead where as many are on their way as may be, and what is done all the same.
func TestFull(t *testing.T) {
	p := filled(t)
	before := wordsOf(p)
	for _, one := range []struct {
		side, kind int
		err        error
	}{
		{0, api.Cancel, api.ErrRange},
		{3, 0, api.ErrRange},
		{api.Coordinator, api.Cancel, api.ErrFull},
		{api.Coordinator, api.Close, api.ErrFull},
		{api.Coordinator, api.Exit, api.ErrFull},
		{api.Participant, 0, api.ErrFull},
		{api.Participant, api.Fail, api.ErrFull},
	} {
		if err := p.Do(one.side, one.kind); !is(err, one.err) {
			t.Errorf("Do(%d, %d) answers %v, not %v", one.side, one.kind, err, one.err)
		}
	}
	for _, i := range []int{-1, math.MinInt, api.MaxFlight, math.MaxInt} {
		for _, copies := range []bool{false, true} {
			if e, err := p.Deliver(i, copies); e != (moves.Effect{}) || !is(err, api.ErrRange) {
				t.Errorf("Deliver(%d, %v) answers %+v, %v", i, copies, e, err)
			}
		}
		if err := p.Drop(i); !is(err, api.ErrRange) {
			t.Errorf("Drop(%d) answers %v", i, err)
		}
	}
	for i := range api.MaxFlight {
		if e, err := p.Deliver(i, true); e != (moves.Effect{}) || !is(err, api.ErrFull) {
			t.Errorf("Deliver(%d, true) answers %+v, %v", i, e, err)
		}
	}
	if p.Again(api.Participant) || p.Again(api.Coordinator) || !wordsOf(p).same(before) {
		t.Error("where there is no room something has changed")
	}
	// What is taken away makes room for what is sent.
	delivered(t, p, api.MaxFlight-1, false, moves.Effect{Seat: pcCoordinator(api.Ended, api.Exit), Send: api.Exited, Changed: true})
	if list := p.Flight(); len(list) != api.MaxFlight || list[api.MaxFlight-1] != down(api.Exited) {
		t.Errorf("%v is on its way", list)
	}
	if err := p.Drop(0); err != nil || len(p.Flight()) != api.MaxFlight-1 {
		t.Errorf("Drop(0) answers %v", err)
	}
	// With one less a copy has room, and so has what is sent once more.
	delivered(t, p, api.MaxFlight-2, true, moves.Effect{Seat: pcParticipant(api.Ended, api.Exit), Changed: true})
	delivered(t, p, 0, true, moves.Effect{Seat: pcCoordinator(api.Ended, api.Exit), Send: api.Exited})
	if n := len(p.Flight()); n != api.MaxFlight {
		t.Errorf("%d are on their way", n)
	}
}

// TestLastPlace lets a side do, and send again, what takes the last place.
func TestLastPlace(t *testing.T) {
	p := filled(t)
	if err := p.Drop(5); err != nil {
		t.Fatal(err)
	}
	must(t, p, api.Coordinator, api.Cancel)
	if list := p.Flight(); len(list) != api.MaxFlight || list[api.MaxFlight-1] != down(api.Cancel) {
		t.Errorf("%v is on its way", list)
	}
	if err := p.Drop(0); err != nil || !p.Again(api.Coordinator) || p.Again(api.Coordinator) {
		t.Errorf("Again doesn't take just the last place, %v", err)
	}
}

// TestFlightIsTheCallers changes what is answered, and asks again.
func TestFlightIsTheCallers(t *testing.T) {
	p := filled(t)
	before := wordsOf(p)
	list := p.Flight()
	for i := range list {
		list[i] = moves.Flying{To: 7, Kind: 8}
	}
	_ = append(p.Flight()[:0], list...)
	if !wordsOf(p).same(before) {
		t.Errorf("%v is on its way", p.Flight())
	}
	list = p.Flight()
	kept := slices.Clone(list)
	for range 10 {
		if err := p.Drop(0); err != nil {
			t.Fatal(err)
		}
	}
	must(t, p, api.Coordinator, api.Cancel)
	if !slices.Equal(list, kept) {
		t.Error("what was answered has changed")
	}
	if list := pair(t, api.PC).Flight(); len(list) != 0 {
		t.Errorf("of a new pair %v is on its way", list)
	}
}

// TestPairsStandAlone holds that neither another pair nor a copy shows what is done.
func TestPairsStandAlone(t *testing.T) {
	p, other := pair(t, api.PC), pair(t, api.PC)
	must(t, p, api.Coordinator, api.Cancel)
	must(t, p, api.Participant, api.Exit)
	if !wordsOf(other).same(newWords(api.PC)) {
		t.Errorf("the other pair is %+v", wordsOf(other))
	}
	for range 8 {
		before, q, r := wordsOf(p), *p, *p
		delivered(t, &q, 0, false, moves.Effect{Seat: pcParticipant(api.Exiting, 0), Send: api.Exit})
		if err := r.Drop(1); err != nil {
			t.Fatal(err)
		}
		if !wordsOf(p).same(before) {
			t.Errorf("its copies have made %+v of %+v", wordsOf(p), before)
		}
		q, r = *p, *p
		q.Again(api.Coordinator)
		r.Again(api.Participant)
		if list := q.Flight(); !wordsOf(p).same(before) || list[len(list)-1] != down(api.Cancel) {
			t.Errorf("two copies have made %+v and %v of %+v", wordsOf(p), list, before)
		}
		p.Again(api.Coordinator)
	}
}

// calls is all calls of a pair with so many on their way, strange ones too.
func calls(flying int) []call {
	var list []call
	for _, side := range []int{-1, 0, 1, 2, 3, math.MaxInt} {
		for kind := -1; kind <= 20; kind++ {
			list = append(list, call{name: "Do", a: side, b: kind})
		}
		list = append(list, call{name: "Again", a: side})
	}
	for i := -1; i <= flying; i++ {
		list = append(list, call{name: "Drop", a: i}, call{name: "Deliver", a: i}, call{name: "Deliver", a: i, copies: true})
	}
	return list
}

// key is what a pair is, as a map's key.
type key struct {
	coordinator, participant moves.Seat
	flight                   string
}

// keyOf is a pair's key.
func keyOf(p *moves.Pair) key {
	k := key{coordinator: p.Seat(api.Coordinator), participant: p.Seat(api.Participant)}
	for _, f := range p.Flight() {
		k.flight += string([]byte{byte(f.To), byte(f.Kind)})
	}
	return k
}

// reached is all pairs that calls lead to, by the ways on which never more than some are on their way.
func reached(t *testing.T, protocol, most int, each func(p *moves.Pair)) {
	t.Helper()
	first := pair(t, protocol)
	seen := map[key]bool{keyOf(first): true}
	for work := []*moves.Pair{first}; len(work) > 0; work = work[1:] {
		each(work[0])
		for _, c := range calls(len(work[0].Flight())) {
			q := *work[0]
			c.on(&q)
			if k := keyOf(&q); len(k.flight) <= 2*most && !seen[k] {
				seen[k] = true
				work = append(work, &q)
			}
		}
	}
}

// TestAllCalls holds all calls against the chapter's words, on all pairs with at most three on their way.
func TestAllCalls(t *testing.T) {
	for _, protocol := range []int{api.PC, api.CC} {
		reached(t, protocol, 3, func(p *moves.Pair) {
			before := wordsOf(p)
			for _, c := range calls(len(before.flight)) {
				q, w := *p, wordsOf(p)
				got, want := c.on(&q), c.words(w)
				if !got.sameAs(want) || !wordsOf(&q).same(w) {
					t.Errorf("of %+v %+v answers %+v and leaves %+v, not %+v and %+v", before, c, got, wordsOf(&q), want, w)
				}
				if got.err != nil && !w.same(before) {
					t.Errorf("of %+v %+v answers %v and leaves %+v", before, c, got.err, w)
				}
			}
		})
	}
}

// thrownCall is a call by a thrown dice; a greedy one sends again, and copies, more than it does and delivers.
func thrownCall(dice *rand.Rand, flying int, greedy bool) call {
	i := dice.Intn(flying + 1)
	n := dice.Intn(10)
	if greedy {
		n = dice.Intn(60)
	}
	switch {
	case n < 3:
		return call{name: "Do", a: 1 + dice.Intn(2), b: 1 + dice.Intn(14)}
	case n == 3:
		return call{name: "Drop", a: i}
	case n < 8:
		return call{name: "Deliver", a: i}
	case n == 8:
		return call{name: "Deliver", a: i, copies: true}
	}
	return call{name: "Again", a: 1 + dice.Intn(2)}
}

// thrown lets new pairs do long thrown orders of calls.
func thrown(t *testing.T, orders, steps int, each func(p *moves.Pair, c call, after func() answer)) {
	t.Helper()
	dice := rand.New(rand.NewSource(11))
	for n := range orders {
		p := pair(t, 1+n%2)
		for range steps {
			c := thrownCall(dice, len(p.Flight()), n%4 >= 2)
			each(p, c, func() answer { return c.on(p) })
		}
	}
}

// TestThrownOrders holds long orders of calls against the chapter's words, up to as many on their way as may be.
func TestThrownOrders(t *testing.T) {
	full, both := 0, 0
	thrown(t, 3000, 250, func(p *moves.Pair, c call, after func() answer) {
		w := wordsOf(p)
		got, want := after(), c.words(w)
		if !got.sameAs(want) || !wordsOf(p).same(w) {
			t.Fatalf("%+v answers %+v and leaves %+v, not %+v and %+v", c, got, wordsOf(p), want, w)
		}
		if len(w.flight) == api.MaxFlight {
			full++
		}
		if p.Seat(1).State == api.Ended && p.Seat(2).State == api.Ended {
			both++
		}
	})
	if full < 1000 || both < 1000 {
		t.Errorf("the orders are too tame: %d times as many on their way as may be, %d times both Ended", full, both)
	}
}
