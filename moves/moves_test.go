package moves_test

import (
	"testing"

	"liaison/api"
	"liaison/moves"
)

// seats calls what is handed in with seats of all small numbers, and some odd ones.
func seats(do func(s moves.Seat)) {
	for _, protocol := range upTo(4) {
		for _, side := range upTo(4) {
			for _, state := range upTo(16) {
				for _, how := range upTo(20) {
					do(moves.Seat{Protocol: protocol, Side: side, State: state, How: how})
				}
			}
		}
	}
}

// pcCoordinator and the next ones are seats by hand.
func pcCoordinator(state, how int) moves.Seat {
	return moves.Seat{Protocol: api.PC, Side: api.Coordinator, State: state, How: how}
}

func pcParticipant(state, how int) moves.Seat {
	return moves.Seat{Protocol: api.PC, Side: api.Participant, State: state, How: how}
}

func ccCoordinator(state, how int) moves.Seat {
	return moves.Seat{Protocol: api.CC, Side: api.Coordinator, State: state, How: how}
}

func ccParticipant(state, how int) moves.Seat {
	return moves.Seat{Protocol: api.CC, Side: api.Participant, State: state, How: how}
}

// Tests of P11.1: seats.

func TestNew(t *testing.T) {
	for _, protocol := range upTo(20) {
		for _, side := range upTo(20) {
			s, err := moves.New(protocol, side)
			if (protocol == 1 || protocol == 2) && (side == 1 || side == 2) {
				if want := (moves.Seat{Protocol: protocol, Side: side, State: 1}); s != want || err != nil {
					t.Errorf("New(%d, %d) answers %v, %v", protocol, side, s, err)
				}
			} else if s != (moves.Seat{}) || !is(err, api.ErrProtocol) {
				t.Errorf("New(%d, %d) answers %v, %v", protocol, side, s, err)
			}
		}
	}
}

func TestRightByHand(t *testing.T) {
	all := []struct {
		seat  moves.Seat
		right bool
	}{
		{moves.Seat{}, false},
		{pcCoordinator(api.Active, 0), true},
		{pcCoordinator(api.Active, api.Exit), false},
		{pcCoordinator(api.Completing, 0), false},
		{ccCoordinator(api.Completing, 0), true},
		{ccCoordinator(api.CancelingCompleting, 0), true},
		{ccParticipant(api.CancelingCompleting, 0), false},
		{pcCoordinator(api.CancelingCompleting, 0), false},
		{pcParticipant(api.FailingCompleting, 0), false},
		{ccParticipant(api.FailingCompleting, 0), true},
		{ccParticipant(api.Exiting, api.Exit), false},
		{pcParticipant(api.Ended, 0), false},
		{pcParticipant(api.Ended, api.Exit), true},
		{pcParticipant(api.Ended, api.Complete), false},
		{pcParticipant(api.Ended, api.IsCompleted), false},
		{pcParticipant(api.Ended, api.Fail), true},
		{pcParticipant(api.Ended, api.CannotComplete), true},
		{pcParticipant(api.Ended, api.Canceled), true},
		{pcCoordinator(api.Ended, api.Closed), true},
		{pcCoordinator(api.Ended, api.Compensated), true},
		{pcCoordinator(api.Ended, api.Close), false},
		{pcCoordinator(api.Ended, api.Failed), false},
		{pcCoordinator(api.Ended, -1), false},
		{moves.Seat{Protocol: 3, Side: 1, State: 1}, false},
		{moves.Seat{Protocol: 1, Side: 0, State: 1}, false},
		{moves.Seat{Protocol: 1, Side: 1, State: 0}, false},
		{moves.Seat{Protocol: 1, Side: 1, State: 15}, false},
	}
	for _, one := range all {
		if one.seat.Right() != one.right {
			t.Errorf("Right of %+v answers %v", one.seat, !one.right)
		}
	}
}

func TestTellByHand(t *testing.T) {
	all := []struct {
		seat moves.Seat
		kind int
		want moves.Effect
	}{
		// It goes, and its application has to do something.
		{pcParticipant(api.Active, 0), api.Cancel, moves.Effect{Seat: pcParticipant(api.Canceling, 0), Work: api.Cancel, Changed: true}},
		{ccParticipant(api.Active, 0), api.Complete, moves.Effect{Seat: ccParticipant(api.Completing, 0), Work: api.Complete, Changed: true}},
		{pcParticipant(api.Completed, 0), api.Close, moves.Effect{Seat: pcParticipant(api.Closing, 0), Work: api.Close, Changed: true}},
		{pcParticipant(api.Completed, 0), api.Compensate, moves.Effect{Seat: pcParticipant(api.Compensating, 0), Work: api.Compensate, Changed: true}},
		// It goes, and nothing is to be done.
		{pcCoordinator(api.Active, 0), api.IsCompleted, moves.Effect{Seat: pcCoordinator(api.Completed, 0), Changed: true}},
		{pcCoordinator(api.Canceling, 0), api.IsCompleted, moves.Effect{Seat: pcCoordinator(api.Completed, 0), Changed: true}},
		{ccCoordinator(api.CancelingCompleting, 0), api.IsCompleted, moves.Effect{Seat: ccCoordinator(api.Completed, 0), Changed: true}},
		// A coordinator does at once what is due.
		{pcCoordinator(api.Active, 0), api.Exit, moves.Effect{Seat: pcCoordinator(api.Ended, api.Exit), Send: api.Exited, Changed: true}},
		{ccCoordinator(api.Completing, 0), api.CannotComplete, moves.Effect{Seat: ccCoordinator(api.Ended, api.CannotComplete), Send: api.NotCompleted, Changed: true}},
		{pcCoordinator(api.Active, 0), api.Fail, moves.Effect{Seat: pcCoordinator(api.Ended, api.Fail), Send: api.Failed, Changed: true}},
		{ccCoordinator(api.CancelingCompleting, 0), api.Fail, moves.Effect{Seat: ccCoordinator(api.Ended, api.Fail), Send: api.Failed, Changed: true}},
		{ccCoordinator(api.Completing, 0), api.Fail, moves.Effect{Seat: ccCoordinator(api.Ended, api.Fail), Send: api.Failed, Changed: true}},
		{pcCoordinator(api.Compensating, 0), api.Fail, moves.Effect{Seat: pcCoordinator(api.Ended, api.Fail), Send: api.Failed, Changed: true}},
		// It ends.
		{pcCoordinator(api.Closing, 0), api.Closed, moves.Effect{Seat: pcCoordinator(api.Ended, api.Closed), Changed: true}},
		{pcCoordinator(api.Canceling, 0), api.Canceled, moves.Effect{Seat: pcCoordinator(api.Ended, api.Canceled), Changed: true}},
		{ccCoordinator(api.Compensating, 0), api.Compensated, moves.Effect{Seat: ccCoordinator(api.Ended, api.Compensated), Changed: true}},
		{pcParticipant(api.FailingActive, 0), api.Failed, moves.Effect{Seat: pcParticipant(api.Ended, api.Fail), Changed: true}},
		{pcParticipant(api.Exiting, 0), api.Exited, moves.Effect{Seat: pcParticipant(api.Ended, api.Exit), Changed: true}},
		{ccParticipant(api.NotCompleting, 0), api.NotCompleted, moves.Effect{Seat: ccParticipant(api.Ended, api.CannotComplete), Changed: true}},
		// It ignores, sends again, or answers a fault; what its application has to do isn't told anew.
		{pcParticipant(api.Closing, 0), api.Close, moves.Effect{Seat: pcParticipant(api.Closing, 0)}},
		{ccParticipant(api.Completing, 0), api.Complete, moves.Effect{Seat: ccParticipant(api.Completing, 0)}},
		{pcCoordinator(api.Ended, api.Closed), api.Closed, moves.Effect{Seat: pcCoordinator(api.Ended, api.Closed)}},
		{pcCoordinator(api.Exiting, 0), api.Exit, moves.Effect{Seat: pcCoordinator(api.Exiting, 0)}},
		{pcParticipant(api.Completed, 0), api.Cancel, moves.Effect{Seat: pcParticipant(api.Completed, 0), Send: api.IsCompleted}},
		{pcCoordinator(api.Closing, 0), api.IsCompleted, moves.Effect{Seat: pcCoordinator(api.Closing, 0), Send: api.Close}},
		{pcCoordinator(api.Ended, api.Closed), api.Exit, moves.Effect{Seat: pcCoordinator(api.Ended, api.Closed), Send: api.Exited}},
		{pcParticipant(api.Ended, api.Exit), api.Close, moves.Effect{Seat: pcParticipant(api.Ended, api.Exit), Send: api.Closed}},
		{pcParticipant(api.Closing, 0), api.Compensate, moves.Effect{Seat: pcParticipant(api.Closing, 0), Fault: api.InvalidState}},
		{ccCoordinator(api.Active, 0), api.IsCompleted, moves.Effect{Seat: ccCoordinator(api.Active, 0), Fault: api.InvalidState}},
		{pcParticipant(api.Active, 0), api.Complete, moves.Effect{Seat: pcParticipant(api.Active, 0), Fault: api.InvalidProtocol}},
		{pcParticipant(api.Canceling, 0), api.Exit, moves.Effect{Seat: pcParticipant(api.Canceling, 0), Fault: api.InvalidProtocol}},
		{pcCoordinator(api.Active, 0), api.Cancel, moves.Effect{Seat: pcCoordinator(api.Active, 0), Fault: api.InvalidProtocol}},
		{pcCoordinator(api.Active, 0), 0, moves.Effect{Seat: pcCoordinator(api.Active, 0), Fault: api.InvalidProtocol}},
		{ccCoordinator(api.Ended, api.Exit), api.Register, moves.Effect{Seat: ccCoordinator(api.Ended, api.Exit), Fault: api.InvalidProtocol}},
	}
	for _, one := range all {
		if e, err := one.seat.Tell(one.kind); err != nil || e != one.want {
			t.Errorf("%+v, told %d, answers %+v, %v, not %+v", one.seat, one.kind, e, err, one.want)
		}
	}
}

func TestDoByHand(t *testing.T) {
	all := []struct {
		seat moves.Seat
		kind int
		want moves.Effect
		err  error
	}{
		{pcParticipant(api.Active, 0), api.IsCompleted, moves.Effect{Seat: pcParticipant(api.Completed, 0), Send: api.IsCompleted, Changed: true}, nil},
		{pcParticipant(api.Active, 0), api.Exit, moves.Effect{Seat: pcParticipant(api.Exiting, 0), Send: api.Exit, Changed: true}, nil},
		{pcParticipant(api.Active, 0), api.Fail, moves.Effect{Seat: pcParticipant(api.FailingActive, 0), Send: api.Fail, Changed: true}, nil},
		{pcParticipant(api.Active, 0), api.CannotComplete, moves.Effect{Seat: pcParticipant(api.NotCompleting, 0), Send: api.CannotComplete, Changed: true}, nil},
		{pcParticipant(api.Canceling, 0), api.Canceled, moves.Effect{Seat: pcParticipant(api.Ended, api.Canceled), Send: api.Canceled, Changed: true}, nil},
		{pcParticipant(api.Closing, 0), api.Closed, moves.Effect{Seat: pcParticipant(api.Ended, api.Closed), Send: api.Closed, Changed: true}, nil},
		{pcParticipant(api.Compensating, 0), api.Compensated, moves.Effect{Seat: pcParticipant(api.Ended, api.Compensated), Send: api.Compensated, Changed: true}, nil},
		{ccCoordinator(api.Active, 0), api.Complete, moves.Effect{Seat: ccCoordinator(api.Completing, 0), Send: api.Complete, Changed: true}, nil},
		{ccCoordinator(api.Completing, 0), api.Cancel, moves.Effect{Seat: ccCoordinator(api.CancelingCompleting, 0), Send: api.Cancel, Changed: true}, nil},
		{pcCoordinator(api.Completed, 0), api.Compensate, moves.Effect{Seat: pcCoordinator(api.Compensating, 0), Send: api.Compensate, Changed: true}, nil},
		{pcCoordinator(api.Exiting, 0), api.Exited, moves.Effect{Seat: pcCoordinator(api.Ended, api.Exit), Send: api.Exited, Changed: true}, nil},
		{pcCoordinator(api.NotCompleting, 0), api.NotCompleted, moves.Effect{Seat: pcCoordinator(api.Ended, api.CannotComplete), Send: api.NotCompleted, Changed: true}, nil},
		{pcCoordinator(api.FailingCanceling, 0), api.Failed, moves.Effect{Seat: pcCoordinator(api.Ended, api.Fail), Send: api.Failed, Changed: true}, nil},
		{pcCoordinator(api.Active, 0), api.Close, moves.Effect{}, api.ErrState},
		{pcCoordinator(api.Ended, api.Closed), api.Cancel, moves.Effect{}, api.ErrState},
		{ccParticipant(api.Active, 0), api.IsCompleted, moves.Effect{}, api.ErrState},
		{pcCoordinator(api.Active, 0), api.Complete, moves.Effect{}, api.ErrForm},
		{pcCoordinator(api.Active, 0), api.Exit, moves.Effect{}, api.ErrForm},
		{pcParticipant(api.Active, 0), api.Fault, moves.Effect{}, api.ErrForm},
		{pcParticipant(api.Active, api.Exit), api.Exit, moves.Effect{}, api.ErrForm},
		{pcParticipant(api.Ended, 0), api.Exit, moves.Effect{}, api.ErrForm},
		{pcParticipant(api.Completing, 0), api.Exit, moves.Effect{}, api.ErrForm},
		{moves.Seat{Protocol: 3, Side: 2, State: 1}, api.Exit, moves.Effect{}, api.ErrForm},
	}
	for _, one := range all {
		if e, err := one.seat.Do(one.kind); e != one.want || !is(err, one.err) {
			t.Errorf("%+v, doing %d, answers %+v, %v, not %+v, %v", one.seat, one.kind, e, err, one.want, one.err)
		}
	}
}

// TestSeats holds Right, Waits and Work, and of wrong seats Tell and Do, against the chapter's words, at all numbers.
func TestSeats(t *testing.T) {
	kinds := []int{0, 1, 2, 3, 8, 9, 12, 14, 15, 20}
	seats(func(s moves.Seat) {
		right := wordsRight(s)
		if s.Right() != right {
			t.Errorf("Right of %+v answers %v", s, !right)
		}
		if kind := s.Waits(); kind != wordsWaits(s) {
			t.Errorf("Waits of %+v answers %d, not %d", s, kind, wordsWaits(s))
		}
		if kind := s.Work(); kind != wordsWork(s) {
			t.Errorf("Work of %+v answers %d, not %d", s, kind, wordsWork(s))
		}
		if right {
			return
		}
		for _, kind := range kinds {
			if e, err := s.Tell(kind); e != (moves.Effect{}) || !is(err, api.ErrForm) {
				t.Errorf("%+v, told %d, answers %+v, %v", s, kind, e, err)
			}
			if e, err := s.Do(kind); e != (moves.Effect{}) || !is(err, api.ErrForm) {
				t.Errorf("%+v, doing %d, answers %+v, %v", s, kind, e, err)
			}
		}
	})
}

// TestMoves holds Tell and Do of all right seats against the chapter's words, at all kinds.
func TestMoves(t *testing.T) {
	count := 0
	seats(func(s moves.Seat) {
		if !s.Right() {
			return
		}
		count++
		for _, kind := range upTo(22) {
			e, err := s.Tell(kind)
			if want, wantErr := wordsTell(s, kind); e != want || !is(err, wantErr) {
				t.Errorf("%+v, told %d, answers %+v, %v, not %+v, %v", s, kind, e, err, want, wantErr)
			}
			e, err = s.Do(kind)
			if want, wantErr := wordsDo(s, kind); e != want || !is(err, wantErr) {
				t.Errorf("%+v, doing %d, answers %+v, %v, not %+v, %v", s, kind, e, err, want, wantErr)
			}
		}
	})
	// Of PC 10 states on both sides that aren't Ended, of CC 13 and 12, and 6 ways to have ended.
	if want := 10 + 10 + 13 + 12 + 4*6; count != want {
		t.Errorf("%d seats are right, not %d", count, want)
	}
}

// TestMovesStayRight holds what comes of moves against itself: the seat is right, of the same protocol and side, and has changed where it is said so.
func TestMovesStayRight(t *testing.T) {
	seats(func(s moves.Seat) {
		if !s.Right() {
			return
		}
		for _, kind := range upTo(22) {
			told, err := s.Tell(kind)
			if err != nil {
				t.Errorf("%+v, told %d, answers %v", s, kind, err)
			}
			done, err := s.Do(kind)
			if err != nil {
				done.Seat = s
			}
			for _, e := range []moves.Effect{told, done} {
				if !e.Seat.Right() || e.Seat.Protocol != s.Protocol || e.Seat.Side != s.Side || e.Changed != (e.Seat.State != s.State) {
					t.Errorf("%+v by %d answers %+v", s, kind, e)
				}
				if e.Fault != 0 && (e.Send != 0 || e.Changed) || e.Work != 0 && !e.Changed || !e.Changed && e.Seat != s {
					t.Errorf("%+v by %d answers %+v", s, kind, e)
				}
			}
		}
	})
}
