package catch_test

import (
	"errors"
	"slices"
	"testing"

	"liaison/api"
	"liaison/catch"
)

// table is package api's errors, in the order of the document's table.
func table() []error {
	return []error{
		api.ErrRange, api.ErrShort, api.ErrLong, api.ErrForm, api.ErrCheck, api.ErrFull, api.ErrPower,
		api.ErrNone, api.ErrState, api.ErrTwice, api.ErrDepth, api.ErrExpired, api.ErrPanic, api.ErrProtocol,
	}
}

// wrapped is an error around another one.
type wrapped struct{ inner error }

func (w wrapped) Error() string { return "wrapped" }
func (w wrapped) Unwrap() error { return w.inner }

// several is an error around many, which can't be compared.
type several []error

func (s several) Error() string   { return "several" }
func (s several) Unwrap() []error { return s }

// asked is an error whose method Is is a function.
type asked struct{ is func(target error) bool }

func (a *asked) Error() string        { return "asked" }
func (a *asked) Is(target error) bool { return a.is(target) }

// broken is an error whose Unwrap panics, its place being nil or not.
type broken struct{ text string }

func (b *broken) Error() string { return b.text }
func (b *broken) Unwrap() error { panic(b) }

// selfish is an error that panics with itself, when it is asked.
type selfish struct{}

func (s selfish) Error() string   { panic(s) }
func (s selfish) Is(_ error) bool { panic(s) }

// textual is no error, though it has the text of one.
type textual struct{}

func (textual) String() string { return api.ErrFull.Error() }

// is tells whether an error is the very one that is wanted, nil too.
func is(err, want error) bool {
	if err == nil || want == nil {
		return err == nil && want == nil
	}
	return err == want
}

// panics does something and tells the value with which it panicked.
func panics(do func()) (value any, panicked bool) {
	panicked = true
	defer func() { value = recover() }()
	do()
	return nil, false
}

// caught fails if a panic with a value isn't caught as an error by Try, All and Until alike.
func caught(t *testing.T, what string, value any, want error) {
	t.Helper()
	x, err := catch.Try(func() int { panic(value) })
	if x != 0 || !is(err, want) {
		t.Errorf("Try of a panic with %s answers %d, %v, not 0, %v", what, x, err, want)
	}
	n, err := catch.All(func() { panic(value) })
	if n != 1 || !is(err, want) {
		t.Errorf("All of a panic with %s answers %d, %v, not 1, %v", what, n, err, want)
	}
	n, err = catch.Until(func() { panic(value) })
	if n != 0 || !is(err, want) {
		t.Errorf("Until of a panic with %s answers %d, %v, not 0, %v", what, n, err, want)
	}
}

func TestTryAnswers(t *testing.T) {
	if x, err := catch.Try(func() int { return 7 }); x != 7 || err != nil {
		t.Errorf("Try of 7 answers %d, %v", x, err)
	}
	if x, err := catch.Try(func() string { return "ab" }); x != "ab" || err != nil {
		t.Errorf("Try of a text answers %q, %v", x, err)
	}
	if x, err := catch.Try(func() []int { return nil }); x != nil || err != nil {
		t.Errorf("Try of no list answers %v, %v", x, err)
	}
	if x, err := catch.Try(func() api.Act { return api.Act{Node: 1, Seq: 2} }); x != (api.Act{Node: 1, Seq: 2}) || err != nil {
		t.Errorf("Try of an activity answers %v, %v", x, err)
	}
	// An error that is answered isn't a panic's.
	if x, err := catch.Try(func() error { return api.ErrFull }); !is(x, api.ErrFull) || err != nil {
		t.Errorf("Try of an error answers %v, %v", x, err)
	}
}

func TestTryDoesOnce(t *testing.T) {
	times := 0
	catch.Try(func() int { times++; return times })
	catch.Try(func() int { times++; panic("x") })
	if times != 2 {
		t.Errorf("two calls of Try do something %d times", times)
	}
}

func TestZeroBesideError(t *testing.T) {
	// What do had set ahead of its panic isn't answered.
	if x, err := catch.Try(func() (x int) { x = 5; panic(api.ErrFull) }); x != 0 || !is(err, api.ErrFull) {
		t.Errorf("Try of a number answers %d, %v", x, err)
	}
	if x, err := catch.Try(func() (x string) { x = "a"; panic("x") }); x != "" || !is(err, api.ErrPanic) {
		t.Errorf("Try of a text answers %q, %v", x, err)
	}
	if x, err := catch.Try(func() (x []int) { x = []int{1}; panic("x") }); x != nil || !is(err, api.ErrPanic) {
		t.Errorf("Try of a list answers %v, %v", x, err)
	}
	if x, err := catch.Try(func() (x api.Act) { x.Seq = 1; panic("x") }); x != (api.Act{}) || !is(err, api.ErrPanic) {
		t.Errorf("Try of an activity answers %v, %v", x, err)
	}
	if x, err := catch.Try(func() (x error) { x = api.ErrFull; panic("x") }); x != nil || !is(err, api.ErrPanic) {
		t.Errorf("Try of an error answers %v, %v", x, err)
	}
}

func TestErrorsOfTheTable(t *testing.T) {
	for _, e := range table() {
		caught(t, e.Error(), e, e)
		caught(t, e.Error()+", wrapped", wrapped{e}, e)
		caught(t, e.Error()+", wrapped twice", wrapped{wrapped{e}}, e)
		caught(t, e.Error()+", joined", errors.Join(errors.New("other"), e), e)
		caught(t, e.Error()+" of several", several{nil, errors.New("other"), wrapped{e}}, e)
		caught(t, e.Error()+" by Is", &asked{func(target error) bool { return target == e }}, e)
	}
}

func TestFirstOfSeveral(t *testing.T) {
	list := table()
	for i, first := range list {
		for _, second := range list[i:] {
			caught(t, "two in order", errors.Join(first, second), first)
			caught(t, "two against the order", errors.Join(second, first), first)
			caught(t, "several", several{second, wrapped{several{second, first}}}, first)
		}
	}
	caught(t, "all of them", &asked{func(error) bool { return true }}, api.ErrRange)
	slices.Reverse(list)
	caught(t, "all of them, turned", errors.Join(list...), api.ErrRange)
}

func TestOtherValues(t *testing.T) {
	full := api.ErrFull
	for _, c := range []struct {
		what  string
		value any
	}{
		{"nil", nil}, {"a text", "x"}, {"an error's text", api.ErrFull.Error()}, {"a number", 6}, {"a list", []int{1}},
		{"a list of errors", []error{api.ErrFull}}, {"an error's address", &full}, {"a function", func() error { return api.ErrFull }}, {"what has a text", textual{}},
		{"another error", errors.New("other")}, {"another error of the same text", errors.New(api.ErrFull.Error())},
		{"another error, wrapped", wrapped{errors.New("other")}}, {"an error around nil", wrapped{nil}}, {"an error around none", several{}}, {"an error around nils", several{nil, nil}},
		{"an error that is none", &asked{func(error) bool { return false }}},
	} {
		caught(t, c.what, c.value, api.ErrPanic)
	}
}

func TestNilWhereItStaysNil(t *testing.T) {
	// By this setting recover answers nil, though there was a panic.
	t.Setenv("GODEBUG", "panicnil=1")
	caught(t, "nil", nil, api.ErrPanic)
	calls := 0
	if n, err := catch.Until(func() { panic(nil) }, func() { calls++ }); n != 0 || !is(err, api.ErrPanic) || calls != 0 {
		t.Errorf("Until of a panic with nil answers %d, %v, and does %d behind it", n, err, calls)
	}
}

// TestErrorsThatPanic is of values whose own methods panic when errors.Is asks them.
func TestErrorsThatPanic(t *testing.T) {
	caught(t, "an error whose Is panics", &asked{func(error) bool { panic("x") }}, api.ErrPanic)
	caught(t, "an error without its function", &asked{}, api.ErrPanic)
	caught(t, "an error whose Is panics with one of the table", &asked{func(error) bool { panic(api.ErrFull) }}, api.ErrPanic)
	caught(t, "an error whose Is panics with itself", selfish{}, api.ErrPanic)
	caught(t, "an error whose Unwrap panics", &broken{"x"}, api.ErrPanic)
	caught(t, "an error that is no place", (*broken)(nil), api.ErrPanic)
	caught(t, "an error around one whose Is panics", wrapped{selfish{}}, api.ErrPanic)
	caught(t, "an error that is one though it panics when it is asked for others", &asked{func(target error) bool {
		if target != api.ErrState {
			panic("x")
		}
		return true
	}}, api.ErrState)
}

func TestRuntimeErrors(t *testing.T) {
	var (
		list  []int
		table map[string]int
		place *api.Act
		zero  int
		thing any = "text"
	)
	for i, do := range []func() int{
		nil,
		func() int { return list[len(list)] },
		func() int { return len(list[1:]) },
		func() int { table["a"] = 1; return 1 },
		func() int { return place.Seq },
		func() int { return 1 / zero },
		func() int { return thing.(int) },
		func() int { return len(make([]int, zero-1)) },
		func() int { return list[catch.Must(0, error(nil))] },
	} {
		if x, err := catch.Try(do); x != 0 || !is(err, api.ErrPanic) {
			t.Errorf("Try of what fails at run time (%d) answers %d, %v", i, x, err)
		}
	}
	if x, err := catch.Try[error](nil); x != nil || !is(err, api.ErrPanic) {
		t.Errorf("Try of nil answers %v, %v", x, err)
	}
}

func TestTryInTry(t *testing.T) {
	var inner error
	x, err := catch.Try(func() int {
		_, inner = catch.Try(func() int { panic(api.ErrFull) })
		return 3
	})
	if x != 3 || err != nil || !is(inner, api.ErrFull) {
		t.Errorf("Try around Try answers %d, %v; the inner one %v", x, err, inner)
	}
	_, err = catch.Try(func() int { return catch.Must(catch.Try(func() int { panic(wrapped{api.ErrFull}) })) })
	if !is(err, api.ErrFull) {
		t.Errorf("what panics again answers %v", err)
	}
	// The panic that comes last is the one.
	_, err = catch.Try(func() int {
		defer func() { panic(api.ErrNone) }()
		panic(api.ErrFull)
	})
	if !is(err, api.ErrNone) {
		t.Errorf("a panic behind a panic answers %v", err)
	}
}

// TestRecoveredWithin is of a panic that never leaves what is done.
func TestRecoveredWithin(t *testing.T) {
	x, err := catch.Try(func() (x int) {
		defer func() { x = recover().(int) }()
		panic(9)
	})
	if x != 9 || err != nil {
		t.Errorf("what recovers by itself answers %d, %v", x, err)
	}
}

func TestMust(t *testing.T) {
	if x := catch.Must(4, nil); x != 4 {
		t.Errorf("Must of 4 answers %d", x)
	}
	if x := catch.Must([]string{"a"}, nil); !slices.Equal(x, []string{"a"}) {
		t.Errorf("Must of a list answers %v", x)
	}
	for _, e := range thrown() {
		value, panicked := panics(func() { catch.Must(4, e) })
		if err, ok := value.(error); !panicked || !ok || !is(err, e) {
			t.Errorf("Must with %T panics %v, with %T", e, panicked, value)
		}
	}
}

func TestCheck(t *testing.T) {
	if value, panicked := panics(func() { catch.Check(nil) }); panicked {
		t.Errorf("Check of nil panics with %v", value)
	}
	for _, e := range thrown() {
		value, panicked := panics(func() { catch.Check(e) })
		if err, ok := value.(error); !panicked || !ok || !is(err, e) {
			t.Errorf("Check of %T panics %v, with %T", e, panicked, value)
		}
	}
}

// thrown is errors that are handed to Must and Check: they panic with the very one, even if it holds nothing.
func thrown() []error {
	return append(table(), errors.New("other"), wrapped{api.ErrFull}, &asked{}, (*broken)(nil), selfish{})
}

// step is one of a list that is done: what it panics with, or nil if it doesn't.
type step struct{ value any }

// steps makes what is done of steps; the places that were done are told in order.
func steps(list []step, done *[]int) []func() {
	var do []func()
	for i, s := range list {
		do = append(do, func() {
			*done = append(*done, i)
			if s.value != nil {
				panic(s.value)
			}
		})
	}
	return do
}

func TestAllAndUntil(t *testing.T) {
	fine, full, none, text := step{}, step{api.ErrFull}, step{wrapped{api.ErrNone}}, step{"x"}
	for _, c := range []struct {
		list     []step
		panicked int
		ahead    int
		err      error
	}{
		{nil, 0, 0, nil},
		{[]step{fine}, 0, 1, nil},
		{[]step{fine, fine, fine}, 0, 3, nil},
		{[]step{full}, 1, 0, api.ErrFull},
		{[]step{full, fine, fine}, 1, 0, api.ErrFull},
		{[]step{fine, none, fine}, 1, 1, api.ErrNone},
		{[]step{fine, fine, text}, 1, 2, api.ErrPanic},
		{[]step{fine, text, none}, 2, 1, api.ErrPanic},
		{[]step{none, full, fine, text}, 3, 0, api.ErrNone},
		{[]step{full, full, full}, 3, 0, api.ErrFull},
	} {
		var done []int
		n, err := catch.All(steps(c.list, &done)...)
		if n != c.panicked || !is(err, c.err) || !inOrder(done, len(c.list)) {
			t.Errorf("All of %v answers %d, %v, and does %v", c.list, n, err, done)
		}
		done = nil
		n, err = catch.Until(steps(c.list, &done)...)
		if n != c.ahead || !is(err, c.err) || !inOrder(done, min(c.ahead+1, len(c.list))) {
			t.Errorf("Until of %v answers %d, %v, and does %v", c.list, n, err, done)
		}
	}
}

// inOrder tells whether the places from 0 on were done, so many, each one once.
func inOrder(done []int, many int) bool {
	for i, place := range done {
		if i != place {
			return false
		}
	}
	return len(done) == many
}

func TestNilInLists(t *testing.T) {
	calls := 0
	count := func() { calls++ }
	if n, err := catch.All(count, nil, count, nil, func() { panic(api.ErrFull) }); n != 3 || !is(err, api.ErrPanic) || calls != 2 {
		t.Errorf("All with nils answers %d, %v, and does %d", n, err, calls)
	}
	calls = 0
	if n, err := catch.Until(count, nil, count); n != 1 || !is(err, api.ErrPanic) || calls != 1 {
		t.Errorf("Until with nil answers %d, %v, and does %d", n, err, calls)
	}
}

// TestListIsAsHanded is of a list that changes while it is done: what was handed in is done, and the change stays.
func TestListIsAsHanded(t *testing.T) {
	for _, call := range []func(...func()) (int, error){catch.All, catch.Until} {
		calls := 0
		list := make([]func(), 3)
		list[0] = func() { list[1], list[2] = nil, nil }
		list[1] = func() { calls++ }
		list[2] = list[1]
		_, err := call(list...)
		if err != nil || calls != 2 {
			t.Errorf("a list that changes answers %v, and %d of it are done behind the change", err, calls)
		}
		if list[0] == nil || list[1] != nil || list[2] != nil {
			t.Error("the caller's list isn't as it was left")
		}
	}
}

func TestMany(t *testing.T) {
	const many = 10000
	list := make([]func(), many)
	for i := range list {
		list[i] = func() { catch.Check(table()[i%14]) }
	}
	if n, err := catch.All(list...); n != many || !is(err, api.ErrRange) {
		t.Errorf("All of many answers %d, %v", n, err)
	}
	var deep error = wrapped{api.ErrExpired}
	for range many {
		deep = wrapped{deep}
	}
	caught(t, "an error deep within others", deep, api.ErrExpired)
}
