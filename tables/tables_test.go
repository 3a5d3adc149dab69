package tables_test

import (
	"math"
	"slices"
	"testing"

	"liaison/api"
	"liaison/tables"
)

// is tells whether an error is the very one that is wanted, nil too.
func is(err, want error) bool {
	if err == nil || want == nil {
		return err == nil && want == nil
	}
	return err == want
}

// odd is numbers that are far from any of a protocol's, a side's, a kind's or a state's.
func odd() []int {
	return []int{math.MinInt, math.MinInt + 1, -1 << 32, -256, 21, 100, 256, 257, 258, 1 << 16, 1<<32 + 1, 1<<32 + 2, 1<<32 + 5, math.MaxInt - 1, math.MaxInt}
}

// upTo is all numbers from -3 to a number, and the odd ones.
func upTo(most int) []int {
	list := odd()
	for n := -3; n <= most; n++ {
		list = append(list, n)
	}
	return list
}

// sides calls what is handed in with each protocol and each of its sides.
func sides(do func(protocol, side int)) {
	for _, protocol := range []int{api.PC, api.CC} {
		for _, side := range []int{api.Coordinator, api.Participant} {
			do(protocol, side)
		}
	}
}

func TestNumbers(t *testing.T) {
	if tables.Go != 1 || tables.Ignore != 2 || tables.Resend != 3 || tables.Invalid != 4 {
		t.Errorf("what a cell does is %d, %d, %d, %d", tables.Go, tables.Ignore, tables.Resend, tables.Invalid)
	}
	if api.PC != 1 || api.CC != 2 || api.Coordinator != 1 || api.Participant != 2 || api.Active != 1 || api.Ended != 14 || api.Exit != 1 || api.NotCompleted != 14 {
		t.Fatal("the tests are made for other numbers")
	}
}

// Tests of P10.1.

func TestLookByHand(t *testing.T) {
	all := []struct {
		protocol, side, kind, state int
		cell                        tables.Cell
	}{
		{api.PC, api.Coordinator, api.IsCompleted, api.Canceling, tables.Cell{Do: tables.Go, Next: api.Completed}},
		{api.CC, api.Coordinator, api.IsCompleted, api.Canceling, tables.Cell{Do: tables.Invalid}},
		{api.PC, api.Coordinator, api.IsCompleted, api.Active, tables.Cell{Do: tables.Go, Next: api.Completed}},
		{api.CC, api.Coordinator, api.IsCompleted, api.Active, tables.Cell{Do: tables.Invalid}},
		{api.CC, api.Coordinator, api.IsCompleted, api.CancelingCompleting, tables.Cell{Do: tables.Go, Next: api.Completed}},
		{api.CC, api.Coordinator, api.IsCompleted, api.Closing, tables.Cell{Do: tables.Resend, Send: api.Close}},
		{api.PC, api.Coordinator, api.IsCompleted, api.Compensating, tables.Cell{Do: tables.Resend, Send: api.Compensate}},
		{api.PC, api.Coordinator, api.IsCompleted, api.FailingCompensating, tables.Cell{Do: tables.Ignore}},
		{api.PC, api.Coordinator, api.IsCompleted, api.FailingCanceling, tables.Cell{Do: tables.Invalid}},
		{api.PC, api.Coordinator, api.Exit, api.Ended, tables.Cell{Do: tables.Resend, Send: api.Exited}},
		{api.PC, api.Coordinator, api.Fail, api.Ended, tables.Cell{Do: tables.Resend, Send: api.Failed}},
		{api.CC, api.Coordinator, api.CannotComplete, api.Ended, tables.Cell{Do: tables.Resend, Send: api.NotCompleted}},
		{api.CC, api.Coordinator, api.Fail, api.CancelingCompleting, tables.Cell{Do: tables.Go, Next: api.FailingCanceling}},
		{api.PC, api.Coordinator, api.Closed, api.Completed, tables.Cell{Do: tables.Invalid}},
		{api.CC, api.Participant, api.Cancel, api.Completed, tables.Cell{Do: tables.Resend, Send: api.IsCompleted}},
		{api.CC, api.Participant, api.Complete, api.NotCompleting, tables.Cell{Do: tables.Resend, Send: api.CannotComplete}},
		{api.CC, api.Participant, api.Complete, api.Exiting, tables.Cell{Do: tables.Resend, Send: api.Exit}},
		{api.CC, api.Participant, api.Cancel, api.FailingCompleting, tables.Cell{Do: tables.Resend, Send: api.Fail}},
		{api.PC, api.Participant, api.Compensate, api.FailingCompensating, tables.Cell{Do: tables.Resend, Send: api.Fail}},
		{api.PC, api.Participant, api.Compensate, api.FailingActive, tables.Cell{Do: tables.Invalid}},
		{api.CC, api.Participant, api.Cancel, api.Completing, tables.Cell{Do: tables.Go, Next: api.Canceling}},
		{api.PC, api.Participant, api.Close, api.Ended, tables.Cell{Do: tables.Resend, Send: api.Closed}},
		{api.PC, api.Participant, api.Cancel, api.Ended, tables.Cell{Do: tables.Resend, Send: api.Canceled}},
		{api.CC, api.Participant, api.Compensate, api.Ended, tables.Cell{Do: tables.Resend, Send: api.Compensated}},
		{api.CC, api.Participant, api.Complete, api.Ended, tables.Cell{Do: tables.Ignore}},
	}
	for _, one := range all {
		cell, err := tables.Look(one.protocol, one.side, one.kind, one.state)
		if err != nil || cell != one.cell {
			t.Errorf("Look(%d, %d, %d, %d) answers %+v, %v, not %+v", one.protocol, one.side, one.kind, one.state, cell, err, one.cell)
		}
	}
}

func TestStepByHand(t *testing.T) {
	all := []struct {
		protocol, side, kind, state int
		next                        int
		err                         error
	}{
		{api.CC, api.Coordinator, api.Complete, api.Active, api.Completing, nil},
		{api.PC, api.Coordinator, api.Complete, api.Active, 0, api.ErrForm},
		{api.CC, api.Coordinator, api.Complete, api.Completing, 0, api.ErrState},
		{api.CC, api.Coordinator, api.Cancel, api.Completing, api.CancelingCompleting, nil},
		{api.PC, api.Coordinator, api.Cancel, api.Completing, 0, api.ErrRange},
		{api.PC, api.Coordinator, api.Cancel, api.Completed, 0, api.ErrState},
		{api.CC, api.Coordinator, api.Failed, api.FailingCompleting, api.Ended, nil},
		{api.CC, api.Coordinator, api.Exit, api.Active, 0, api.ErrForm},
		{api.PC, api.Participant, api.IsCompleted, api.Active, api.Completed, nil},
		{api.CC, api.Participant, api.IsCompleted, api.Active, 0, api.ErrState},
		{api.CC, api.Participant, api.IsCompleted, api.Completing, api.Completed, nil},
		{api.PC, api.Participant, api.IsCompleted, api.Completing, 0, api.ErrRange},
		{api.CC, api.Participant, api.IsCompleted, api.CancelingCompleting, 0, api.ErrRange},
		{api.PC, api.Participant, api.Fail, api.Compensating, api.FailingCompensating, nil},
		{api.PC, api.Participant, api.Fail, api.Closing, 0, api.ErrState},
		{api.PC, api.Participant, api.Fail, api.Completed, 0, api.ErrState},
		{api.PC, api.Participant, api.Closed, api.Closing, api.Ended, nil},
		{api.PC, api.Participant, api.Failed, api.FailingActive, 0, api.ErrForm},
		{api.CC, api.Participant, api.GetStatus, api.Active, 0, api.ErrForm},
	}
	for _, one := range all {
		next, err := tables.Step(one.protocol, one.side, one.kind, one.state)
		if next != one.next || !is(err, one.err) {
			t.Errorf("Step(%d, %d, %d, %d) answers %d, %v, not %d, %v", one.protocol, one.side, one.kind, one.state, next, err, one.next, one.err)
		}
	}
}

// TestErrorsInOrder hands in numbers of which several are wrong.
func TestErrorsInOrder(t *testing.T) {
	for _, n := range []int{math.MinInt, -1, 0, 15, 20, math.MaxInt} {
		for _, one := range []struct {
			protocol, side, kind, state int
			want                        error
		}{
			{0, api.Coordinator, n, n, api.ErrProtocol},
			{3, api.Participant, n, n, api.ErrProtocol},
			{api.PC, 0, n, n, api.ErrProtocol},
			{api.CC, 3, n, n, api.ErrProtocol},
			{api.CC, n, api.Exit, api.Active, api.ErrProtocol},
			{n, api.Coordinator, api.Exit, api.Active, api.ErrProtocol},
			{api.PC, api.Coordinator, n, n, api.ErrForm},
			{api.CC, api.Participant, n, n, api.ErrForm},
		} {
			if cell, err := tables.Look(one.protocol, one.side, one.kind, one.state); cell != (tables.Cell{}) || !is(err, one.want) {
				t.Errorf("Look(%d, %d, %d, %d) answers %+v, %v", one.protocol, one.side, one.kind, one.state, cell, err)
			}
			if next, err := tables.Step(one.protocol, one.side, one.kind, one.state); next != 0 || !is(err, one.want) {
				t.Errorf("Step(%d, %d, %d, %d) answers %d, %v", one.protocol, one.side, one.kind, one.state, next, err)
			}
		}
		if kind, err := tables.Waits(n, 0, n); kind != 0 || !is(err, api.ErrProtocol) {
			t.Errorf("Waits(%d, 0, %d) answers %d, %v", n, n, kind, err)
		}
	}
}

// TestMoves holds Look and Step against the chapter's words, at all numbers.
func TestMoves(t *testing.T) {
	for _, protocol := range upTo(5) {
		for _, side := range upTo(5) {
			for _, kind := range upTo(21) {
				for _, state := range upTo(17) {
					moves(t, protocol, side, kind, state)
				}
			}
		}
	}
}

// moves fails if Look or Step doesn't answer what the chapter says.
func moves(t *testing.T, protocol, side, kind, state int) {
	t.Helper()
	wantCell, wantErr := wordsLook(protocol, side, kind, state)
	if cell, err := tables.Look(protocol, side, kind, state); cell != wantCell || !is(err, wantErr) {
		t.Errorf("Look(%d, %d, %d, %d) answers %+v, %v, not %+v, %v", protocol, side, kind, state, cell, err, wantCell, wantErr)
	}
	wantNext, wantErr := wordsStep(protocol, side, kind, state)
	if next, err := tables.Step(protocol, side, kind, state); next != wantNext || !is(err, wantErr) {
		t.Errorf("Step(%d, %d, %d, %d) answers %d, %v, not %d, %v", protocol, side, kind, state, next, err, wantNext, wantErr)
	}
}

// TestWaits holds Waits against the chapter's words, at all numbers.
func TestWaits(t *testing.T) {
	for _, protocol := range upTo(5) {
		for _, side := range upTo(5) {
			for _, state := range upTo(17) {
				want, wantErr := wordsWait(protocol, side, state)
				if kind, err := tables.Waits(protocol, side, state); kind != want || !is(err, wantErr) {
					t.Errorf("Waits(%d, %d, %d) answers %d, %v, not %d, %v", protocol, side, state, kind, err, want, wantErr)
				}
			}
		}
	}
}

// TestLists holds States, Takes and Sends against the chapter's words, at all numbers.
func TestLists(t *testing.T) {
	calls := []struct {
		name string
		call func(protocol, side int) ([]int, error)
		want func(protocol, side int) []int
	}{
		{"States", tables.States, sideStates},
		{"Takes", tables.Takes, sideTakes},
		{"Sends", tables.Sends, sideSends},
	}
	for _, one := range calls {
		for _, protocol := range upTo(20) {
			for _, side := range upTo(20) {
				list, err := one.call(protocol, side)
				if !both(protocol, side) {
					if len(list) != 0 || !is(err, api.ErrProtocol) {
						t.Errorf("%s(%d, %d) answers %v, %v", one.name, protocol, side, list, err)
					}
					continue
				}
				if want := one.want(protocol, side); err != nil || !slices.Equal(list, want) {
					t.Errorf("%s(%d, %d) answers %v, %v, not %v", one.name, protocol, side, list, err, want)
				}
			}
		}
	}
}

// TestListsAreTheCallers changes what is answered, and asks again.
func TestListsAreTheCallers(t *testing.T) {
	sides(func(protocol, side int) {
		for _, call := range []func(protocol, side int) ([]int, error){tables.States, tables.Takes, tables.Sends} {
			first, _ := call(protocol, side)
			kept := slices.Clone(first)
			second, _ := call(protocol, side)
			for i := range first {
				first[i] = -1
			}
			third, err := call(protocol, side)
			if err != nil || !slices.Equal(second, kept) || !slices.Equal(third, kept) {
				t.Errorf("of protocol %d, side %d a list is %v, %v, not %v", protocol, side, second, third, kept)
			}
		}
	})
}

// TestWhatIsSentIsTaken holds both sides against each other: what one does by itself, waits with or sends again the other one is told.
func TestWhatIsSentIsTaken(t *testing.T) {
	sides(func(protocol, side int) {
		sends, _ := tables.Sends(protocol, side)
		other, _ := tables.Takes(protocol, api.Coordinator+api.Participant-side)
		if !slices.Equal(sends, other) {
			t.Errorf("by protocol %d side %d sends %v, and the other one is told %v", protocol, side, sends, other)
		}
		states, _ := tables.States(protocol, side)
		takes, _ := tables.Takes(protocol, side)
		for _, state := range states {
			if kind, err := tables.Waits(protocol, side, state); err != nil || kind != 0 && !slices.Contains(sends, kind) {
				t.Errorf("by protocol %d side %d waits in %d with %d, %v", protocol, side, state, kind, err)
			}
			for _, kind := range takes {
				cell, err := tables.Look(protocol, side, kind, state)
				if err != nil || (cell.Do == tables.Resend) != (cell.Send != 0) || cell.Send != 0 && !slices.Contains(sends, cell.Send) {
					t.Errorf("by protocol %d side %d, told %d in %d, does %+v, %v", protocol, side, kind, state, cell, err)
				}
				if (cell.Do == tables.Go) != (cell.Next != 0) || cell.Next != 0 && !slices.Contains(states, cell.Next) {
					t.Errorf("by protocol %d side %d, told %d in %d, goes to %+v", protocol, side, kind, state, cell)
				}
			}
		}
	})
}

// Tests of P10.2.

// ways is the states to which a side may come from a state by one move, told or by itself.
func ways(t *testing.T, protocol, side, state int) []int {
	t.Helper()
	var to []int
	for kind := -1; kind <= 20; kind++ {
		if cell, err := tables.Look(protocol, side, kind, state); err == nil && cell.Do == tables.Go {
			to = append(to, cell.Next)
		}
		if next, err := tables.Step(protocol, side, kind, state); err == nil {
			to = append(to, next)
		}
	}
	return to
}

func TestNothingLeadsOutOfEnded(t *testing.T) {
	sides(func(protocol, side int) {
		if to := ways(t, protocol, side, api.Ended); len(to) != 0 {
			t.Errorf("of protocol %d, side %d Ended leads to %v", protocol, side, to)
		}
		if kind, err := tables.Waits(protocol, side, api.Ended); kind != 0 || err != nil {
			t.Errorf("of protocol %d, side %d Ended waits with %d, %v", protocol, side, kind, err)
		}
	})
}

// TestEndedIsComeTo goes on from each state till nothing new is come to.
func TestEndedIsComeTo(t *testing.T) {
	sides(func(protocol, side int) {
		states, err := tables.States(protocol, side)
		if err != nil || len(states) == 0 {
			t.Fatalf("States(%d, %d) answers %v, %v", protocol, side, states, err)
		}
		for _, from := range states {
			seen := map[int]bool{from: true}
			for work := []int{from}; len(work) > 0; work = work[1:] {
				for _, to := range ways(t, protocol, side, work[0]) {
					if !seen[to] {
						seen[to] = true
						work = append(work, to)
					}
				}
			}
			if !seen[api.Ended] {
				t.Errorf("of protocol %d, side %d %d doesn't lead to Ended", protocol, side, from)
			}
			if from == api.Active && len(seen) != len(states) {
				t.Errorf("of protocol %d, side %d Active leads to %v only", protocol, side, seen)
			}
		}
	})
}
