package tape_test

import (
	"bytes"
	"fmt"
	"math"
	"strings"
	"testing"

	"liaison/api"
	"liaison/tape"
)

// is tells whether an error is the very one that is wanted, nil too.
func is(err, want error) bool {
	if err == nil || want == nil {
		return err == nil && want == nil
	}
	return err == want
}

// thrown makes what answers one number after the other, the same ones each time.
func thrown(seed uint64) func() uint64 {
	return func() uint64 {
		seed = seed*6364136223846793005 + 1442695040888963407
		return seed>>32 ^ seed<<16
	}
}

// thrownBytes is so many bytes of all kinds.
func thrownBytes(many int) []byte {
	next := thrown(uint64(many))
	b := make([]byte, many)
	for i := range b {
		b[i] = byte(next())
	}
	return b
}

// words is a tape as the chapter's words tell it: what is sure and what isn't stand apart, and the power is a list of steps that it still lasts.
type words struct {
	sure, tail string
	room       int
	off        bool
	untold     bool
	lasts      []struct{}
}

// asked is what a step answers, if its own error doesn't apply, and does.
func (w *words) asked(wrong bool, own error, does func()) error {
	if wrong {
		return own
	}
	if w.off {
		return api.ErrPower
	}
	if !w.untold {
		if len(w.lasts) == 0 {
			w.off = true
			return api.ErrPower
		}
		w.lasts = w.lasts[1:]
	}
	does()
	return nil
}

func (w *words) all() string { return w.sure + w.tail }

func (w *words) put(s string) { w.sure, w.tail = s, "" }

func (w *words) crash(keep int) {
	kept := ""
	for i, b := range []byte(w.tail) {
		if i < keep {
			kept += string([]byte{b})
		}
	}
	w.put(w.sure + kept)
	w.off, w.untold = false, true
}

func (w *words) arm(steps int) {
	w.untold = steps < 0
	w.lasts = make([]struct{}, max(steps, 0))
}

func (w *words) setRoom(room int) error {
	if room < 0 || room > 65536 {
		return api.ErrRange
	}
	w.room = room
	return nil
}

// op is a call, on a tape and in words.
type op struct {
	name string
	call func(x *tape.Tape) error
	tell func(w *words) error
}

func appends(s string) op {
	return op{
		"Append " + shown(s),
		func(x *tape.Tape) error { return x.Append([]byte(s)) },
		func(w *words) error {
			return w.asked(len(w.all())+len(s) > w.room, api.ErrFull, func() { w.tail += s })
		},
	}
}

func syncs() op {
	return op{
		"Sync",
		func(x *tape.Tape) error { return x.Sync() },
		func(w *words) error { return w.asked(false, nil, func() { w.put(w.all()) }) },
	}
}

func swaps(s string) op {
	return op{
		"Swap " + shown(s),
		func(x *tape.Tape) error { return x.Swap([]byte(s)) },
		func(w *words) error { return w.asked(len(s) > w.room, api.ErrFull, func() { w.put(s) }) },
	}
}

func cuts(n int) op {
	return op{
		fmt.Sprint("Cut ", n),
		func(x *tape.Tape) error { return x.Cut(n) },
		func(w *words) error {
			return w.asked(n < 0 || len(w.all()) < n, api.ErrRange, func() { w.put(w.all()[:n]) })
		},
	}
}

func rooms(room int) op {
	return op{
		fmt.Sprint("SetRoom ", room),
		func(x *tape.Tape) error { return x.SetRoom(room) },
		func(w *words) error { return w.setRoom(room) },
	}
}

func arms(steps int) op {
	return op{
		fmt.Sprint("Arm ", steps),
		func(x *tape.Tape) error { x.Arm(steps); return nil },
		func(w *words) error { w.arm(steps); return nil },
	}
}

func crashes(keep int) op {
	return op{
		fmt.Sprint("Crash ", keep),
		func(x *tape.Tape) error { x.Crash(keep); return nil },
		func(w *words) error { w.crash(keep); return nil },
	}
}

// shown is bytes as they are told where a test fails.
func shown(s string) string {
	if len(s) > 20 {
		return fmt.Sprintf("%q.. (%d)", s[:20], len(s))
	}
	return fmt.Sprintf("%q", s)
}

// made is a tape, and it in words.
func made(t *testing.T, room int) (*tape.Tape, *words) {
	t.Helper()
	x, err := tape.New(room)
	if err != nil || x == nil {
		t.Fatalf("New(%d) answers %v", room, err)
	}
	return x, &words{room: room, untold: true}
}

// does does ops on a tape and in words; it fails if they don't answer the same, or the tape isn't as it is told behind the last.
func does(t *testing.T, x *tape.Tape, w *words, ops ...op) {
	t.Helper()
	for i, o := range ops {
		if err, want := o.call(x), o.tell(w); !is(err, want) {
			t.Fatalf("%s: the last one answers %v, not %v", names(ops[:i+1]), err, want)
		}
	}
	if got := string(x.Bytes()); got != w.all() {
		t.Fatalf("behind %s there is %s, not %s", names(ops), shown(got), shown(w.all()))
	}
	if x.Sure() != len(w.sure) || x.Room() != w.room || x.Off() != w.off {
		t.Fatalf("behind %s: sure %d, room %d, off %v; not %d, %d, %v", names(ops), x.Sure(), x.Room(), x.Off(), len(w.sure), w.room, w.off)
	}
}

func names(ops []op) string {
	var list []string
	for _, o := range ops {
		list = append(list, o.name)
	}
	return strings.Join(list, ", ")
}

// holds fails if a tape hasn't these bytes, so many of them sure.
func holds(t *testing.T, x *tape.Tape, all string, sure int) {
	t.Helper()
	if string(x.Bytes()) != all || x.Sure() != sure {
		t.Fatalf("there is %q, %d of it sure; not %q, %d", x.Bytes(), x.Sure(), all, sure)
	}
}

// filled is a tape with bytes that are sure, and a tail.
func filled(t *testing.T, room int, sure, tail string) *tape.Tape {
	t.Helper()
	x, w := made(t, room)
	does(t, x, w, appends(sure), syncs(), appends(tail))
	return x
}

func TestLimits(t *testing.T) {
	if api.MaxTape != 65536 {
		t.Fatalf("the tests are made for another limit than %d bytes", api.MaxTape)
	}
}

func TestNew(t *testing.T) {
	for _, room := range []int{0, 1, 2, 9, 255, 65535, 65536} {
		x, w := made(t, room)
		does(t, x, w)
	}
	for _, room := range wrongRooms() {
		if x, err := tape.New(room); !is(err, api.ErrRange) || x != nil {
			t.Errorf("New(%d) answers %v, %v", room, x, err)
		}
	}
}

// wrongRooms is rooms that aren't 0 to MaxTape: at the edges, and such as are right in fewer bits.
func wrongRooms() []int {
	return []int{
		-1, -2, -65536, math.MinInt32, math.MinInt, math.MinInt + 1, -1 << 32, -1<<32 + 5,
		65537, 65538, 131072, 1 << 24, math.MaxInt32, 1 << 31, 1 << 32, 1<<32 + 5, math.MaxInt - 1, math.MaxInt,
	}
}

func TestExample(t *testing.T) {
	x, _ := made(t, 100)
	if x.Append([]byte("ab")) != nil || x.Sync() != nil || x.Append([]byte("cd")) != nil {
		t.Fatal("bytes can't be appended")
	}
	holds(t, x, "abcd", 2)
	x.Crash(1)
	holds(t, x, "abc", 3)
}

// TestSteps is each call by hand, where all goes well.
func TestSteps(t *testing.T) {
	x := filled(t, 10, "abc", "de")
	holds(t, x, "abcde", 3)
	if err := x.Sync(); err != nil {
		t.Fatal(err)
	}
	holds(t, x, "abcde", 5)
	if err := x.Append([]byte("fghij")); err != nil {
		t.Fatal(err)
	}
	holds(t, x, "abcdefghij", 5)
	if err := x.Cut(7); err != nil {
		t.Fatal(err)
	}
	holds(t, x, "abcdefg", 7)
	if err := x.Append([]byte("x")); err != nil {
		t.Fatal(err)
	}
	if err := x.Cut(2); err != nil {
		t.Fatal(err)
	}
	holds(t, x, "ab", 2)
	if err := x.Append([]byte("yz")); err != nil {
		t.Fatal(err)
	}
	if err := x.Swap([]byte("0123456789")); err != nil {
		t.Fatal(err)
	}
	holds(t, x, "0123456789", 10)
	if err := x.Swap(nil); err != nil {
		t.Fatal(err)
	}
	holds(t, x, "", 0)
}

func TestSetRoom(t *testing.T) {
	x := filled(t, 10, "abc", "de")
	for _, room := range wrongRooms() {
		if err := x.SetRoom(room); !is(err, api.ErrRange) || x.Room() != 10 {
			t.Errorf("SetRoom(%d) answers %v; the room is %d", room, err, x.Room())
		}
	}
	for _, room := range []int{5, 4, 3, 2, 1, 0, 65536, 5} {
		if err := x.SetRoom(room); err != nil || x.Room() != room {
			t.Errorf("SetRoom(%d) answers %v; the room is %d", room, err, x.Room())
		}
		holds(t, x, "abcde", 3)
	}
}

// TestRoomBelowBytes is of a room that is less than there is: what is there stays, may be synced and cut; nothing comes to it, not even nothing.
func TestRoomBelowBytes(t *testing.T) {
	x := filled(t, 10, "abc", "de")
	if err := x.SetRoom(4); err != nil {
		t.Fatal(err)
	}
	for _, s := range []string{"", "f", "fghijklm"} {
		if err := x.Append([]byte(s)); !is(err, api.ErrFull) {
			t.Errorf("Append of %q answers %v", s, err)
		}
	}
	if err := x.Swap([]byte("12345")); !is(err, api.ErrFull) {
		t.Errorf("Swap for 5 bytes answers %v", err)
	}
	holds(t, x, "abcde", 3)
	if err := x.Sync(); err != nil {
		t.Fatal(err)
	}
	holds(t, x, "abcde", 5)
	if err := x.Cut(5); err != nil {
		t.Fatal(err)
	}
	holds(t, x, "abcde", 5)
	if err := x.Cut(4); err != nil {
		t.Fatal(err)
	}
	if err := x.Append(nil); err != nil {
		t.Errorf("Append of nothing to a full tape answers %v", err)
	}
	if err := x.Append([]byte("f")); !is(err, api.ErrFull) {
		t.Errorf("Append to a full tape answers %v", err)
	}
	if err := x.Swap([]byte("1234")); err != nil {
		t.Fatal(err)
	}
	holds(t, x, "1234", 4)
}

// TestRoomBehindCrash is of a tail that a lowered room hasn't room for: a crash keeps of it what it is told to.
func TestRoomBehindCrash(t *testing.T) {
	x := filled(t, 10, "abc", "def")
	if err := x.SetRoom(0); err != nil {
		t.Fatal(err)
	}
	x.Crash(2)
	holds(t, x, "abcde", 5)
	if x.Room() != 0 {
		t.Errorf("behind a crash the room is %d", x.Room())
	}
}

func TestEdgesOfRoom(t *testing.T) {
	for _, room := range []int{0, 1, 7, 255, 256, 65535, 65536} {
		whole, more := thrownBytes(room), thrownBytes(room+1)
		x, w := made(t, room)
		does(t, x, w, appends(string(more)))
		does(t, x, w, appends(string(whole)))
		does(t, x, w, appends("x"))
		does(t, x, w, syncs())
		does(t, x, w, swaps(string(more)))
		does(t, x, w, swaps(string(whole)))
		does(t, x, w, cuts(room+1), cuts(room), cuts(room/2))
		does(t, x, w, appends(string(whole[:room-room/2])))
		does(t, x, w, appends("x"), swaps(""), appends(""))
	}
}

// TestByteByByte fills a tape with single bytes, up to its room.
func TestByteByByte(t *testing.T) {
	x, _ := made(t, api.MaxTape)
	want := thrownBytes(api.MaxTape)
	for i := range want {
		if err := x.Append(want[i : i+1]); err != nil {
			t.Fatalf("Append of byte %d answers %v", i, err)
		}
	}
	if err := x.Append([]byte{0}); !is(err, api.ErrFull) || !bytes.Equal(x.Bytes(), want) || x.Sure() != 0 {
		t.Errorf("a full tape answers %v; %d bytes are sure", err, x.Sure())
	}
}

func TestWrongCuts(t *testing.T) {
	for _, n := range []int{-1, -2, 6, 7, 10, 256, 1 << 32, 1<<32 + 1, -1 << 32, -1<<32 + 1, math.MinInt, math.MinInt + 1, math.MaxInt - 1, math.MaxInt} {
		x := filled(t, 10, "abc", "de")
		if err := x.Cut(n); !is(err, api.ErrRange) {
			t.Errorf("Cut(%d) answers %v", n, err)
		}
		holds(t, x, "abcde", 3)
	}
	x, _ := made(t, 10)
	if x.Cut(0) != nil || !is(x.Cut(1), api.ErrRange) || !is(x.Cut(-1), api.ErrRange) {
		t.Error("of a tape without bytes something can be cut")
	}
}

func TestCrash(t *testing.T) {
	for _, c := range []struct {
		keep int
		want string
	}{
		{math.MinInt, "abc"}, {-1 << 32, "abc"}, {-1<<32 + 2, "abc"}, {-3, "abc"}, {-1, "abc"}, {0, "abc"}, {1, "abcd"}, {2, "abcde"}, {3, "abcdef"}, {4, "abcdefg"}, {5, "abcdefg"}, {7, "abcdefg"},
		{256, "abcdefg"}, {1 << 32, "abcdefg"}, {math.MaxInt - 3, "abcdefg"}, {math.MaxInt - 2, "abcdefg"}, {math.MaxInt, "abcdefg"},
	} {
		for _, room := range []int{10, 7} {
			x := filled(t, room, "abc", "defg")
			x.Crash(c.keep)
			holds(t, x, c.want, len(c.want))
			if x.Room() != room || x.Off() {
				t.Errorf("behind Crash(%d): room %d, off %v", c.keep, x.Room(), x.Off())
			}
			x.Crash(c.keep)
			holds(t, x, c.want, len(c.want))
		}
	}
}

// steps is the four steps, such as have no error of their own on a tape of "abcde" with room.
func steps() []op {
	return []op{appends("f"), syncs(), swaps("xyz"), cuts(1)}
}

// wrongs is steps that have errors of their own on a tape of "abcde" with a room of 10: these aren't steps.
func wrongs() []op {
	return []op{appends("fghijk"), swaps("0123456789x"), cuts(6), cuts(-1)}
}

// TestPower is of each count of steps, and each step: so many are done, the next one isn't, and turns the power off.
func TestPower(t *testing.T) {
	for lasts := range 6 {
		for _, step := range steps() {
			x, _ := made(t, 10)
			if err := x.Append([]byte("abc")); err != nil {
				t.Fatal(err)
			}
			x.Arm(lasts)
			for i := range lasts {
				if err := syncs().call(x); err != nil || x.Off() {
					t.Fatalf("step %d of %d answers %v; off: %v", i, lasts, err, x.Off())
				}
			}
			if x.Off() {
				t.Errorf("where 0 of %d steps are left, the power is off ahead of the next", lasts)
			}
			all, sure := string(x.Bytes()), x.Sure()
			for range 3 {
				if err := step.call(x); !is(err, api.ErrPower) || !x.Off() {
					t.Errorf("%s behind %d steps answers %v; off: %v", step.name, lasts, err, x.Off())
				}
				holds(t, x, all, sure)
			}
		}
	}
}

// TestEachStepCounts is of each kind of step: it makes the steps one fewer.
func TestEachStepCounts(t *testing.T) {
	for _, step := range append(steps(), appends(""), swaps(""), cuts(5), cuts(0), cuts(3)) {
		x := filled(t, 10, "abc", "de")
		x.Arm(1)
		if err := step.call(x); err != nil || x.Off() {
			t.Errorf("%s with power for one step answers %v; off: %v", step.name, err, x.Off())
		}
		if err := x.Sync(); !is(err, api.ErrPower) || !x.Off() {
			t.Errorf("Sync behind %s, the only step, answers %v; off: %v", step.name, err, x.Off())
		}
	}
}

// TestNoStep is of calls that aren't steps: they make the steps no fewer, and don't turn the power off.
func TestNoStep(t *testing.T) {
	others := []op{rooms(10), rooms(-1), rooms(65537)}
	for _, o := range append(wrongs(), others...) {
		for _, lasts := range []int{0, 1, 2} {
			x := filled(t, 10, "abc", "de")
			x.Arm(lasts)
			for range 3 {
				if err := o.call(x); is(err, api.ErrPower) || x.Off() {
					t.Errorf("%s with power for %d steps answers %v; off: %v", o.name, lasts, err, x.Off())
				}
				x.Bytes()
				x.Sure()
				x.Room()
			}
			holds(t, x, "abcde", 3)
			for i := range lasts {
				if err := x.Sync(); err != nil {
					t.Errorf("step %d of %d behind %s answers %v", i, lasts, o.name, err)
				}
			}
			if err := x.Sync(); !is(err, api.ErrPower) {
				t.Errorf("step %d of %d behind %s answers %v", lasts, lasts, o.name, err)
			}
		}
	}
}

// TestErrPowerIsLast is of calls with an error of their own, where the power is off too.
func TestErrPowerIsLast(t *testing.T) {
	for _, o := range wrongs() {
		x := filled(t, 10, "abc", "de")
		want := o.call(x)
		x.Arm(0)
		if err := x.Sync(); !is(err, api.ErrPower) {
			t.Fatal(err)
		}
		if err := o.call(x); !is(err, want) || is(err, api.ErrPower) {
			t.Errorf("%s without power answers %v, not %v", o.name, err, want)
		}
		holds(t, x, "abcde", 3)
	}
	x := filled(t, 10, "abc", "de")
	x.Arm(0)
	if err := x.Cut(0); !is(err, api.ErrPower) {
		t.Fatal(err)
	}
	if err := x.SetRoom(3); err != nil || x.Room() != 3 {
		t.Errorf("SetRoom without power answers %v", err)
	}
	if err := x.SetRoom(-1); !is(err, api.ErrRange) {
		t.Errorf("SetRoom(-1) without power answers %v", err)
	}
}

func TestArmAnew(t *testing.T) {
	for _, c := range []struct {
		arms []int
		want int
	}{
		{[]int{2}, 2}, {[]int{2, 0}, 0}, {[]int{0, 2}, 2}, {[]int{2, 2}, 2}, {[]int{3, 1}, 1}, {[]int{-1}, -1}, {[]int{0, -1}, -1}, {[]int{2, -7}, -1}, {[]int{2, math.MinInt}, -1},
		{[]int{-1, 0}, 0}, {[]int{-5, 3}, 3}, {[]int{math.MinInt, 1}, 1}, {[]int{0, math.MaxInt}, -1}, {[]int{0, 1 << 32}, -1}, {[]int{0, math.MaxInt, 1}, 1},
	} {
		x, _ := made(t, 10)
		for _, steps := range c.arms {
			x.Arm(steps)
			if x.Off() {
				t.Fatalf("Arm of %v turns the power off", c.arms)
			}
		}
		done := 0
		for done < 20 && x.Sync() == nil {
			done++
		}
		if c.want < 0 && done != 20 || c.want >= 0 && done != c.want {
			t.Errorf("armed by %v, one behind the other, %d steps are done", c.arms, done)
		}
	}
}

// TestArmWithinSteps is of a count that is told where some steps of another are done already: it is counted from there.
func TestArmWithinSteps(t *testing.T) {
	x, w := made(t, 10)
	does(t, x, w, arms(3), syncs(), arms(2), syncs(), syncs())
	if x.Off() {
		t.Error("the power is off too soon")
	}
	does(t, x, w, syncs())
	if !x.Off() {
		t.Error("the power is on too long")
	}
}

// TestArmWithoutPower is of power that is off: it stays off, whatever is told, till a crash; behind that it isn't told how long it lasts.
func TestArmWithoutPower(t *testing.T) {
	for _, told := range []int{math.MinInt, -1, 0, 1, 5, math.MaxInt} {
		x := filled(t, 10, "abc", "de")
		x.Arm(0)
		if err := x.Sync(); !is(err, api.ErrPower) {
			t.Fatal(err)
		}
		x.Arm(told)
		for _, step := range steps() {
			if err := step.call(x); !is(err, api.ErrPower) || !x.Off() {
				t.Errorf("%s behind Arm(%d) without power answers %v; off: %v", step.name, told, err, x.Off())
			}
		}
		holds(t, x, "abcde", 3)
		x.Crash(1)
		holds(t, x, "abcd", 4)
		for i := range 10 {
			if err := x.Sync(); err != nil || x.Off() {
				t.Fatalf("behind a crash step %d answers %v; off: %v", i, err, x.Off())
			}
		}
	}
}

// TestCrashUntells is of power that is on, and told how long it lasts: behind a crash it isn't.
func TestCrashUntells(t *testing.T) {
	for lasts := range 4 {
		x, w := made(t, 10)
		does(t, x, w, appends("ab"), arms(lasts), crashes(0))
		for range 10 {
			does(t, x, w, syncs())
		}
		if x.Off() {
			t.Errorf("behind a crash the power lasts %d steps", lasts)
		}
	}
}

// TestAllShortOrders is P6.1 of all orders of up to four calls of these.
func TestAllShortOrders(t *testing.T) {
	ops := []op{
		appends(""), appends("a"), appends("bcd"), syncs(), swaps(""), swaps("xy"), swaps("12345"), cuts(-1), cuts(0), cuts(1), cuts(3),
		rooms(-1), rooms(0), rooms(2), rooms(5), rooms(65537), arms(-1), arms(0), arms(1), arms(2), crashes(-1), crashes(0), crashes(1), crashes(2), crashes(math.MaxInt),
	}
	var grow func(ahead []op)
	grow = func(ahead []op) {
		x, w := made(t, 4)
		does(t, x, w, ahead...)
		if len(ahead) == 4 {
			return
		}
		for _, o := range ops {
			grow(append(ahead[:len(ahead):len(ahead)], o))
		}
	}
	grow(nil)
}

// TestLongOrders is P6.1 of long orders of thrown calls.
func TestLongOrders(t *testing.T) {
	next := thrown(6)
	below := func(bound int) int { return int(next() % uint64(bound)) }
	for range 400 {
		most := []int{3, 40, 300}[below(3)]
		x, w := made(t, below(most+1))
		for range 300 {
			does(t, x, w, thrownOp(below, most, len(w.all())))
		}
	}
}

// thrownOp is a call with numbers around a bound, and around how many bytes there are.
func thrownOp(below func(int) int, most, many int) op {
	s := string(thrownBytes(below(most)))
	switch below(12) {
	case 0, 1:
		return appends(s)
	case 2, 3:
		return appends(s[:len(s)/4])
	case 4, 5:
		return syncs()
	case 6:
		return swaps(s)
	case 7:
		return cuts(many + 2 - below(many+4))
	case 8:
		return rooms(below(3*most) - 2)
	case 9:
		return arms(below(9) - 1)
	default:
		return crashes(below(most) - 2)
	}
}

func TestNothingHandedInIsChangedOrKept(t *testing.T) {
	for _, call := range []func(x *tape.Tape, b []byte) error{(*tape.Tape).Append, (*tape.Tape).Swap} {
		x, _ := made(t, 100)
		room := []byte("abcdefghij")
		b := room[:3]
		if err := call(x, b); err != nil {
			t.Fatal(err)
		}
		b[1] = 'X'
		holds(t, x, "abc", x.Sure())
		if err := x.Append([]byte("123")); err != nil {
			t.Fatal(err)
		}
		x.Crash(1)
		if err := x.Append([]byte("45")); err != nil {
			t.Fatal(err)
		}
		if string(room) != "aXcdefghij" {
			t.Errorf("what was handed in is changed to %q", room)
		}
	}
}

func TestBytesAreTheCallersOwn(t *testing.T) {
	x := filled(t, 100, "abc", "de")
	first, second := x.Bytes(), x.Bytes()
	first[0] = 'X'
	_ = append(first, 'Y')
	holds(t, x, "abcde", 3)
	if err := x.Append([]byte("f")); err != nil {
		t.Fatal(err)
	}
	if err := x.Cut(2); err != nil {
		t.Fatal(err)
	}
	if err := x.Append([]byte("gh")); err != nil {
		t.Fatal(err)
	}
	if string(first) != "Xbcde" || string(second) != "abcde" {
		t.Errorf("what Bytes answered is changed to %q, %q", first, second)
	}
	if err := x.Append(x.Bytes()); err != nil {
		t.Fatal(err)
	}
	if err := x.Swap(x.Bytes()[1:7]); err != nil {
		t.Fatal(err)
	}
	holds(t, x, "bghabg", 6)
}

// TestTapesAreApart is of two tapes: what one is told, the other one doesn't know.
func TestTapesAreApart(t *testing.T) {
	x, w := made(t, 5)
	y, v := made(t, 7)
	does(t, x, w, appends("ab"), arms(0), syncs())
	does(t, y, v, appends("123"), syncs(), rooms(3))
	does(t, x, w)
	does(t, y, v)
	does(t, x, w, crashes(1))
	does(t, y, v)
}
