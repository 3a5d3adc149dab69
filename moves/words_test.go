package moves_test

import (
	"math"
	"slices"

	"liaison/api"
	"liaison/moves"
	"liaison/tables"
)

// The chapter's words, told anew: what the package answers is held against them. Layer 10 is taken as it is.

// is tells whether an error is the very one that is wanted, nil too.
func is(err, want error) bool {
	if err == nil || want == nil {
		return err == nil && want == nil
	}
	return err == want
}

// odd is numbers that are far from any of a protocol's, a side's, a kind's or a state's.
func odd() []int {
	return []int{math.MinInt, math.MinInt + 1, -256, 100, 256, 257, 258, 1<<32 + 1, 1<<32 + 14, math.MaxInt}
}

// upTo is all numbers from -2 to a number, and the odd ones.
func upTo(most int) []int {
	list := odd()
	for n := -2; n <= most; n++ {
		list = append(list, n)
	}
	return list
}

// works is what a participant's application has to do, by state.
var works = map[int]int{
	api.Completing:   api.Complete,
	api.Closing:      api.Close,
	api.Canceling:    api.Cancel,
	api.Compensating: api.Compensate,
}

// dues is what a coordinator does at once, and how it ends by it, by the state to which it went.
var dues = map[int]struct{ send, how int }{
	api.Exiting:             {api.Exited, api.Exit},
	api.NotCompleting:       {api.NotCompleted, api.CannotComplete},
	api.FailingActive:       {api.Failed, api.Fail},
	api.FailingCanceling:    {api.Failed, api.Fail},
	api.FailingCompleting:   {api.Failed, api.Fail},
	api.FailingCompensating: {api.Failed, api.Fail},
}

// ends is by which kind a seat has ended, by its side and the kind that it was told, or did, as the last one.
var ends = map[[2]int]int{
	{api.Coordinator, api.Canceled}:     api.Canceled,
	{api.Coordinator, api.Closed}:       api.Closed,
	{api.Coordinator, api.Compensated}:  api.Compensated,
	{api.Coordinator, api.Exited}:       api.Exit,
	{api.Coordinator, api.NotCompleted}: api.CannotComplete,
	{api.Coordinator, api.Failed}:       api.Fail,
	{api.Participant, api.Canceled}:     api.Canceled,
	{api.Participant, api.Closed}:       api.Closed,
	{api.Participant, api.Compensated}:  api.Compensated,
	{api.Participant, api.Exited}:       api.Exit,
	{api.Participant, api.NotCompleted}: api.CannotComplete,
	{api.Participant, api.Failed}:       api.Fail,
}

// hows is the kinds by which a seat may have ended.
var hows = []int{api.Exit, api.Fail, api.CannotComplete, api.Canceled, api.Closed, api.Compensated}

// wordsRight tells whether a seat is right.
func wordsRight(s moves.Seat) bool {
	states, err := tables.States(s.Protocol, s.Side)
	if err != nil || !slices.Contains(states, s.State) {
		return false
	}
	if s.State == api.Ended {
		return slices.Contains(hows, s.How)
	}
	return s.How == 0
}

// wordsWork is what a seat's application has to do.
func wordsWork(s moves.Seat) int {
	if s.Side == api.Participant && wordsRight(s) {
		return works[s.State]
	}
	return 0
}

// wordsWaits is what a seat waits with.
func wordsWaits(s moves.Seat) int {
	if !wordsRight(s) {
		return 0
	}
	kind, err := tables.Waits(s.Protocol, s.Side, s.State)
	if err != nil {
		panic(err)
	}
	return kind
}

// wordsTell is what comes of a seat that is told a kind.
func wordsTell(s moves.Seat, kind int) (moves.Effect, error) {
	if !wordsRight(s) {
		return moves.Effect{}, api.ErrForm
	}
	e := moves.Effect{Seat: s}
	cell, err := tables.Look(s.Protocol, s.Side, kind, s.State)
	switch {
	case is(err, api.ErrForm):
		e.Fault = api.InvalidProtocol
		return e, nil
	case err != nil:
		panic(err)
	}
	switch cell.Do {
	case tables.Resend:
		e.Send = cell.Send
	case tables.Invalid:
		e.Fault = api.InvalidState
	case tables.Go:
		e.Seat.State = cell.Next
		if one, ok := dues[cell.Next]; ok && s.Side == api.Coordinator {
			e.Seat.State, e.Seat.How, e.Send = api.Ended, one.how, one.send
		} else if cell.Next == api.Ended {
			e.Seat.How = ends[[2]int{s.Side, kind}]
		}
		e.Changed = e.Seat.State != s.State
		e.Work = wordsWork(e.Seat)
	}
	return e, nil
}

// wordsDo is what comes of a seat that does a kind.
func wordsDo(s moves.Seat, kind int) (moves.Effect, error) {
	if !wordsRight(s) {
		return moves.Effect{}, api.ErrForm
	}
	next, err := tables.Step(s.Protocol, s.Side, kind, s.State)
	if err != nil {
		return moves.Effect{}, err
	}
	e := moves.Effect{Seat: s, Send: kind}
	e.Seat.State = next
	if next == api.Ended {
		e.Seat.How = ends[[2]int{s.Side, kind}]
	}
	e.Changed = next != s.State
	e.Work = wordsWork(e.Seat)
	return e, nil
}

// wordsPair is a pair by the chapter's words: its seats by side, and what is on its way.
type wordsPair struct {
	seats  map[int]moves.Seat
	flight []moves.Flying
}

// newWords is a pair of Active seats.
func newWords(protocol int) *wordsPair {
	w := &wordsPair{seats: map[int]moves.Seat{}}
	for _, side := range []int{api.Coordinator, api.Participant} {
		w.seats[side] = moves.Seat{Protocol: protocol, Side: side, State: api.Active}
	}
	return w
}

// wordsOf is what a pair shows, in memory of its own.
func wordsOf(p *moves.Pair) *wordsPair {
	w := &wordsPair{seats: map[int]moves.Seat{}, flight: slices.Clone(p.Flight())}
	for _, side := range []int{api.Coordinator, api.Participant} {
		w.seats[side] = p.Seat(side)
	}
	return w
}

// same tells whether two pairs are the same.
func (w *wordsPair) same(other *wordsPair) bool {
	return w.seats[api.Coordinator] == other.seats[api.Coordinator] &&
		w.seats[api.Participant] == other.seats[api.Participant] &&
		slices.Equal(w.flight, other.flight)
}

// put puts a kind that a side sends behind the others.
func (w *wordsPair) put(from, kind int) {
	if kind == 0 {
		return
	}
	to := api.Participant
	if from == api.Participant {
		to = api.Coordinator
	}
	w.flight = append(w.flight, moves.Flying{To: to, Kind: kind})
}

// call is a call of a pair's.
type call struct {
	name   string
	a, b   int
	copies bool
}

// answer is what a call answers: those that answer nothing of a kind leave it as it is.
type answer struct {
	e   moves.Effect
	yes bool
	err error
}

// sameAs tells whether two answers are the same.
func (a answer) sameAs(b answer) bool {
	return a.e == b.e && a.yes == b.yes && is(a.err, b.err)
}

// on lets a pair do a call.
func (c call) on(p *moves.Pair) answer {
	var a answer
	switch c.name {
	case "Do":
		a.err = p.Do(c.a, c.b)
	case "Again":
		a.yes = p.Again(c.a)
	case "Deliver":
		a.e, a.err = p.Deliver(c.a, c.copies)
	case "Drop":
		a.err = p.Drop(c.a)
	}
	return a
}

// words lets the chapter's words do a call.
func (c call) words(w *wordsPair) answer {
	switch c.name {
	case "Do":
		return answer{err: w.do(c.a, c.b)}
	case "Again":
		return answer{yes: w.again(c.a)}
	case "Deliver":
		e, err := w.deliver(c.a, c.copies)
		return answer{e: e, err: err}
	}
	return answer{err: w.drop(c.a)}
}

func (w *wordsPair) do(side, kind int) error {
	s, ok := w.seats[side]
	if !ok {
		return api.ErrRange
	}
	if len(w.flight) == api.MaxFlight {
		return api.ErrFull
	}
	e, err := wordsDo(s, kind)
	if err != nil {
		return err
	}
	w.seats[side] = e.Seat
	w.put(side, e.Send)
	return nil
}

func (w *wordsPair) again(side int) bool {
	kind := wordsWaits(w.seats[side])
	if kind == 0 || len(w.flight) == api.MaxFlight {
		return false
	}
	w.put(side, kind)
	return true
}

func (w *wordsPair) deliver(i int, copies bool) (moves.Effect, error) {
	if i < 0 || i >= len(w.flight) {
		return moves.Effect{}, api.ErrRange
	}
	if copies && len(w.flight) == api.MaxFlight {
		return moves.Effect{}, api.ErrFull
	}
	told := w.flight[i]
	e, err := wordsTell(w.seats[told.To], told.Kind)
	if err != nil {
		panic(err)
	}
	if !copies {
		w.flight = slices.Delete(slices.Clone(w.flight), i, i+1)
	}
	w.seats[told.To] = e.Seat
	w.put(told.To, e.Send)
	return e, nil
}

func (w *wordsPair) drop(i int) error {
	if i < 0 || i >= len(w.flight) {
		return api.ErrRange
	}
	w.flight = slices.Delete(slices.Clone(w.flight), i, i+1)
	return nil
}
