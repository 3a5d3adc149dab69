package moves

import (
	"slices"

	"liaison/api"
)

// Flying is a kind on its way.
type Flying struct {
	To, Kind int
}

// Pair is both sides of a registration.
type Pair struct {
	seats [2]Seat
	// A list is never written to again, but replaced: a pair that is copied goes on by itself.
	flight []Flying
}

// NewPair is a pair of Active seats.
func NewPair(protocol int) (*Pair, error) {
	p := &Pair{}
	for i := range p.seats {
		s, err := New(protocol, api.Coordinator+i)
		if err != nil {
			return nil, err
		}
		p.seats[i] = s
	}
	return p, nil
}

// Do lets a side do a kind.
func (p *Pair) Do(side, kind int) error {
	at := p.place(side)
	switch {
	case at == nil:
		return api.ErrRange
	case !p.room():
		return api.ErrFull
	}
	e, err := at.Do(kind)
	if err != nil {
		return err
	}
	p.settle(side, e)
	return nil
}

// Again lets a side send again.
func (p *Pair) Again(side int) bool {
	kind := p.Seat(side).Waits()
	if kind == 0 || !p.room() {
		return false
	}
	p.send(side, kind)
	return true
}

// Deliver delivers a kind.
func (p *Pair) Deliver(i int, copies bool) (Effect, error) {
	switch {
	case !p.flies(i):
		return Effect{}, api.ErrRange
	case copies && !p.room():
		return Effect{}, api.ErrFull
	}
	told := p.flight[i]
	e, err := p.Seat(told.To).Tell(told.Kind)
	if err != nil {
		return Effect{}, err
	}
	if !copies {
		p.take(i)
	}
	p.settle(told.To, e)
	return e, nil
}

// Drop drops a kind.
func (p *Pair) Drop(i int) error {
	if !p.flies(i) {
		return api.ErrRange
	}
	p.take(i)
	return nil
}

// Seat is a side.
func (p *Pair) Seat(side int) Seat {
	at := p.place(side)
	if at == nil {
		return Seat{}
	}
	return *at
}

// Flight is what is on its way.
func (p *Pair) Flight() []Flying {
	return slices.Clone(p.flight)
}

// place is where a side's seat stands, nil if it is none of both.
func (p *Pair) place(side int) *Seat {
	switch side {
	case api.Coordinator, api.Participant:
		return &p.seats[side-api.Coordinator]
	}
	return nil
}

// room tells whether one more may be on its way.
func (p *Pair) room() bool {
	return len(p.flight) < api.MaxFlight
}

// flies tells whether there is an i-th on its way.
func (p *Pair) flies(i int) bool {
	return 0 <= i && i < len(p.flight)
}

// take takes the i-th away.
func (p *Pair) take(i int) {
	p.flight = slices.Concat(p.flight[:i], p.flight[i+1:])
}

// settle leaves a side as a move has left it, and sends what the move sends.
func (p *Pair) settle(side int, e Effect) {
	*p.place(side) = e.Seat
	if e.Send != 0 {
		p.send(side, e.Send)
	}
}

// send puts what a side sends behind the others.
func (p *Pair) send(side, kind int) {
	other := api.Coordinator + api.Participant - side
	p.flight = slices.Concat(p.flight, []Flying{{To: other, Kind: kind}})
}
