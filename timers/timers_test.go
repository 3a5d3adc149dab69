package timers_test

import (
	"fmt"
	"math"
	"math/rand"
	"slices"
	"strconv"
	"testing"

	"liaison/api"
	"liaison/timers"
)

const (
	greatest = math.MaxFloat64
	smallest = math.SmallestNonzeroFloat64
	normal   = 0x1p-1022
)

var (
	minusZero = math.Copysign(0, -1)
	infinity  = math.Inf(1)
)

// delays is floats that are delays, up to their edges.
func delays() []float64 {
	return []float64{minusZero, 0, smallest, 2 * smallest, math.Nextafter(normal, 0), normal, 0.1, 0.5, 1, math.Nextafter(1, 2), 2, 3, 1 << 50, 1 << 53, 1e300, greatest / 2, greatest, infinity}
}

// wrongs is floats that aren't delays: numbers below 0, and NaNs of several bits.
func wrongs() []float64 {
	return []float64{
		-smallest, -normal, -0.5, -1, -1e300, -greatest, math.Inf(-1),
		math.NaN(), -math.NaN(), math.Float64frombits(0x7FF0000000000001), math.Float64frombits(0x7FFFFFFFFFFFFFFF), math.Float64frombits(0xFFF8000000000000), math.Float64frombits(0xFFF0000000000001),
	}
}

// must does calls that have no error, and a Drop of a timer that is there.
func must(t *testing.T, k *timers.Clock, calls ...call) {
	t.Helper()
	for _, c := range calls {
		if yes, err := c.on(k); err != nil || yes != (c.name == "Drop") {
			t.Fatalf("%v answers %v, %v", c, yes, err)
		}
	}
}

// due fails if the timers that are due aren't these, in this order.
func due(t *testing.T, k *timers.Clock, want ...string) {
	t.Helper()
	if list := k.Due(); !slices.Equal(list, want) {
		t.Errorf("at %v due are %q, not %q", k.Now(), list, want)
	}
}

// at fails if a timer isn't due then, or wasn't set again so often.
func at(t *testing.T, k *timers.Clock, key string, want float64, times int) {
	t.Helper()
	if got, many, there := k.At(key); !same(got, want) || many != times || !there {
		t.Errorf("%q is at %v, %d, %v, not at %v, %d", key, got, many, there, want, times)
	}
}

// next fails if the least time isn't this one.
func next(t *testing.T, k *timers.Clock, want float64) {
	t.Helper()
	if least, there := k.Next(); !same(least, want) || !there {
		t.Errorf("next is %v, %v, not %v", least, there, want)
	}
}

// empty fails if a clock has timers.
func empty(t *testing.T, k *timers.Clock) {
	t.Helper()
	due(t, k)
	if least, there := k.Next(); !same(least, 0) || there || k.Len() != 0 {
		t.Errorf("without timers next is %v, %v, and there are %d", least, there, k.Len())
	}
}

// filled is a clock with as many timers as may be, and it in words: of six the time is the same.
func filled(t *testing.T) (*timers.Clock, *words) {
	t.Helper()
	k, w := made()
	for i := range api.MaxTimers {
		does(t, k, w, sets(strconv.Itoa(i*37%64), float64(i*5%11), 8))
	}
	return k, w
}

func TestLimits(t *testing.T) {
	if api.MaxTimers != 64 || api.MaxSeq != 1000000 {
		t.Fatal("the tests are made for other limits")
	}
}

func TestNew(t *testing.T) {
	k := timers.New()
	if k == nil || !same(k.Now(), 0) {
		t.Fatalf("New answers %v", k)
	}
	empty(t, k)
	if time, times, there := k.At(""); !same(time, 0) || times != 0 || there {
		t.Errorf("of no key there is %v, %d, %v", time, times, there)
	}
}

func TestExample(t *testing.T) {
	k := timers.New()
	must(t, k, sets("a", 1, 5))
	due(t, k)
	must(t, k, ticks(1))
	due(t, k, "a")
	must(t, k, again("a"))
	at(t, k, "a", 3, 1)
	must(t, k, again("a"))
	at(t, k, "a", 5, 2)
	must(t, k, again("a"))
	at(t, k, "a", 6, 3)
	must(t, k, again("a"))
	at(t, k, "a", 6, 4)
	due(t, k)
}

func TestTickByHand(t *testing.T) {
	for _, one := range []struct {
		ticks []float64
		want  float64
	}{
		{nil, 0},
		{[]float64{0}, 0},
		{[]float64{minusZero}, 0},
		{[]float64{minusZero, minusZero, 0}, 0},
		{[]float64{1}, 1},
		{[]float64{1, minusZero}, 1},
		{[]float64{1, 2.5, 0, 0.25}, 3.75},
		{[]float64{0.1, 0.2}, 0.30000000000000004},
		{[]float64{smallest, smallest}, 2 * smallest},
		{[]float64{1 << 53, 1}, 1 << 53},
		{[]float64{1 << 53, 2}, 1<<53 + 2},
		{[]float64{1, smallest}, 1},
		{[]float64{greatest}, greatest},
		{[]float64{greatest, 1}, greatest},
		{[]float64{greatest, greatest}, infinity},
		{[]float64{infinity}, infinity},
		{[]float64{infinity, 0}, infinity},
		{[]float64{infinity, 1, infinity}, infinity},
	} {
		k := timers.New()
		for _, by := range one.ticks {
			must(t, k, ticks(by))
		}
		if !same(k.Now(), one.want) {
			t.Errorf("behind %v it is %v, not %v", one.ticks, k.Now(), one.want)
		}
	}
}

// TestWrongTicks ticks by what is no delay, at each time: nothing goes on.
func TestWrongTicks(t *testing.T) {
	for _, now := range delays() {
		k, w := made()
		does(t, k, w, ticks(now), sets("a", 1, 2), sets("b", 0, 0), again("a"))
		for _, by := range wrongs() {
			if err := k.Tick(by); !is(err, api.ErrForm) {
				t.Errorf("at %v Tick(%v) answers %v", now, by, err)
			}
			holds(t, k, w, []call{ticks(now), ticks(by)})
		}
	}
}

// TestTickLeavesTimers is of timers that time goes past: they stay, as they are, till they are set again or dropped.
func TestTickLeavesTimers(t *testing.T) {
	k := timers.New()
	must(t, k, sets("a", 1, 5), sets("b", 3, 3), sets("c", 2, 9), again("c"), ticks(0.5))
	due(t, k)
	at(t, k, "c", 4, 1)
	must(t, k, ticks(0.5))
	due(t, k, "a")
	must(t, k, ticks(1))
	due(t, k, "a")
	must(t, k, ticks(1))
	due(t, k, "a", "b")
	must(t, k, ticks(100))
	due(t, k, "a", "b", "c")
	at(t, k, "a", 1, 0)
	at(t, k, "b", 3, 0)
	at(t, k, "c", 4, 1)
	next(t, k, 1)
	if k.Len() != 3 {
		t.Errorf("there are %d timers", k.Len())
	}
}

func TestSetByHand(t *testing.T) {
	for _, one := range []struct{ now, base, most, want float64 }{
		{0, 1, 5, 1},
		{0, 5, 1, 1},
		{0, 3, 3, 3},
		{0, 0, 0, 0},
		{0, minusZero, minusZero, 0},
		{0, minusZero, 1, 0},
		{0, 1, minusZero, 0},
		{7, 1, 5, 8},
		{7, 5, 1, 8},
		{7, minusZero, 5, 7},
		{7, 5, 0, 7},
		{0.1, 0.2, 1, 0.30000000000000004},
		{0, smallest, 1, smallest},
		{1, smallest, 1, 1},
		{1, infinity, 2, 3},
		{1, 2, infinity, 3},
		{1, infinity, infinity, infinity},
		{1, greatest, infinity, greatest},
		{greatest, greatest, infinity, infinity},
		{greatest, infinity, greatest, infinity},
		{1 << 53, 1, 1, 1 << 53},
		{infinity, 0, 0, infinity},
		{infinity, 1, 2, infinity},
		{infinity, minusZero, infinity, infinity},
	} {
		k := timers.New()
		must(t, k, ticks(one.now), sets("a", one.base, one.most))
		at(t, k, "a", one.want, 0)
		next(t, k, one.want)
		if one.want <= one.now {
			due(t, k, "a")
		} else {
			due(t, k)
		}
		if k.Len() != 1 {
			t.Errorf("there are %d timers", k.Len())
		}
	}
}

// TestSetAllDelays sets timers by all delays, at all times, and each again, a while later.
func TestSetAllDelays(t *testing.T) {
	for _, now := range delays() {
		for _, base := range delays() {
			for _, most := range delays() {
				k, w := made()
				does(t, k, w, ticks(now), sets("a", base, most))
				for range 3 {
					does(t, k, w, again("a"))
				}
				does(t, k, w, ticks(2), again("a"))
			}
		}
	}
}

// TestSetWrong sets timers by what is no delay: nothing changes, also of a key that has one.
func TestSetWrong(t *testing.T) {
	for _, wrong := range wrongs() {
		for _, right := range append(delays(), wrongs()...) {
			k, w := made()
			does(t, k, w, sets("a", 1, 5), ticks(1), again("a"))
			for _, key := range []string{"a", "b", ""} {
				for _, c := range []call{sets(key, wrong, right), sets(key, right, wrong)} {
					if err := k.Set(c.key, c.base, c.most); !is(err, api.ErrForm) {
						t.Errorf("%v answers %v", c, err)
					}
				}
			}
			holds(t, k, w, nil)
			does(t, k, w, again("a"))
		}
	}
}

// TestSetAnew is of a key that has a timer: it has a new one, as if there had been none.
func TestSetAnew(t *testing.T) {
	k := timers.New()
	must(t, k, sets("a", 1, 5), ticks(2), again("a"), again("a"))
	at(t, k, "a", 6, 2)
	must(t, k, sets("a", 3, 100))
	at(t, k, "a", 5, 0)
	must(t, k, ticks(1), again("a"))
	at(t, k, "a", 9, 1)
	must(t, k, again("a"))
	at(t, k, "a", 15, 2)
	must(t, k, sets("a", 0.5, 0.75), again("a"))
	at(t, k, "a", 3.75, 1)
	if k.Len() != 1 {
		t.Errorf("there are %d timers", k.Len())
	}
}

// TestFull is of a clock with as many timers as may be: none is set but of the keys that have one.
func TestFull(t *testing.T) {
	k, w := filled(t)
	if k.Len() != 64 {
		t.Fatalf("there are %d timers", k.Len())
	}
	for _, key := range []string{"64", "", "a", "00", "no such key"} {
		if err := k.Set(key, 1, 2); !is(err, api.ErrFull) {
			t.Errorf("Set of %q answers %v", key, err)
		}
		holds(t, k, w, nil)
		if err := k.Again(key); !is(err, api.ErrNone) {
			t.Errorf("Again of %q answers %v", key, err)
		}
		for _, wrong := range wrongs() {
			if err := k.Set(key, wrong, 2); !is(err, api.ErrForm) {
				t.Errorf("Set of %q by %v answers %v", key, wrong, err)
			}
			if err := k.Set(key, 1, wrong); !is(err, api.ErrForm) {
				t.Errorf("Set of %q by %v at most answers %v", key, wrong, err)
			}
		}
		holds(t, k, w, nil)
	}
	for i := range 64 {
		does(t, k, w, sets(strconv.Itoa(i), float64(i%7), 100), ticks(0.125), again(strconv.Itoa(63-i)))
	}
	does(t, k, w, drops("no such key"), sets("a", 1, 2), drops("17"), sets("a", 1, 2), sets("17", 1, 2), sets("b", 1, 2), again("a"), sets("a", 3, 4))
	if k.Len() != 64 {
		t.Errorf("there are %d timers", k.Len())
	}
	for _, key := range keysOf(w) {
		does(t, k, w, drops(key), drops(key))
	}
	empty(t, k)
	does(t, k, w, sets("a", 1, 2))
}

// TestFullToTheLast sets timers one by one: the sixty-fourth one is set, the next one isn't.
func TestFullToTheLast(t *testing.T) {
	k := timers.New()
	for i := range 70 {
		want := error(nil)
		if i >= 64 {
			want = api.ErrFull
		}
		if err := k.Set(fmt.Sprint("key ", i), 1, 1); !is(err, want) {
			t.Errorf("the %d-th Set answers %v, not %v", i, err, want)
		}
		if k.Len() != min(i+1, 64) {
			t.Errorf("behind the %d-th there are %d timers", i, k.Len())
		}
	}
}

// TestAgainByHand tells of each base and most when it is due, again and again, from a time on.
func TestAgainByHand(t *testing.T) {
	for _, one := range []struct {
		now, base, most float64
		want            []float64
	}{
		{0, 1, 8, []float64{1, 2, 4, 8, 8, 8}},
		{10, 1, 5, []float64{11, 12, 14, 15, 15}},
		{0, 5, 1, []float64{1, 1, 1}},
		{0, 3, 3, []float64{3, 3, 3}},
		{0, 3, 7, []float64{3, 6, 7, 7}},
		{2, 0, 5, []float64{2, 2, 2}},
		{2, minusZero, 5, []float64{2, 2, 2}},
		{2, 5, 0, []float64{2, 2, 2}},
		{0, minusZero, minusZero, []float64{0, 0}},
		{0, 0.75, infinity, []float64{0.75, 1.5, 3, 6, 12, 24, 48, 96, 192}},
		{1, infinity, infinity, []float64{infinity, infinity}},
		{1, infinity, 3, []float64{4, 4, 4}},
		{0, smallest, 1, []float64{smallest, 2 * smallest, 4 * smallest}},
		{0, greatest / 2, infinity, []float64{greatest / 2, greatest, infinity, infinity}},
		{0, greatest / 2, greatest, []float64{greatest / 2, greatest, greatest}},
		{infinity, 1, 8, []float64{infinity, infinity}},
	} {
		k := timers.New()
		must(t, k, ticks(one.now), sets("a", one.base, one.most))
		for times, want := range one.want {
			if times > 0 {
				must(t, k, again("a"))
			}
			at(t, k, "a", want, times)
			next(t, k, want)
		}
	}
}

// TestAgainFromNow is of timers that are set again ahead of their time, at it and behind it: their delay begins now.
func TestAgainFromNow(t *testing.T) {
	k := timers.New()
	must(t, k, sets("a", 4, 100), ticks(1), again("a"))
	at(t, k, "a", 9, 1)
	must(t, k, ticks(8))
	due(t, k, "a")
	must(t, k, again("a"))
	at(t, k, "a", 25, 2)
	due(t, k)
	must(t, k, ticks(991))
	due(t, k, "a")
	must(t, k, again("a"))
	at(t, k, "a", 1032, 3)
	due(t, k)
}

// TestAgainOfOne sets one of some timers again: the others are as they were.
func TestAgainOfOne(t *testing.T) {
	k := timers.New()
	must(t, k, sets("a", 1, 8), sets("b", 1, 8), sets("c", 1, 8), ticks(1), again("b"))
	due(t, k, "a", "c")
	at(t, k, "a", 1, 0)
	at(t, k, "b", 3, 1)
	at(t, k, "c", 1, 0)
}

func TestAgainOfNone(t *testing.T) {
	k, w := made()
	for _, key := range []string{"", "a", "b"} {
		if err := k.Again(key); !is(err, api.ErrNone) {
			t.Errorf("Again of %q answers %v", key, err)
		}
	}
	empty(t, k)
	does(t, k, w, sets("a", 1, 2), drops("a"))
	if err := k.Again("a"); !is(err, api.ErrNone) {
		t.Errorf("Again of one that was dropped answers %v", err)
	}
	does(t, k, w, sets("a", 1, 2))
	for _, key := range []string{"", "A", "aa", "a\x00", " a", "b"} {
		if err := k.Again(key); !is(err, api.ErrNone) {
			t.Errorf("Again of %q answers %v", key, err)
		}
	}
	holds(t, k, w, nil)
}

// TestAgainMost sets timers again as often as is counted, and more often: the count stays, the time goes on.
func TestAgainMost(t *testing.T) {
	k := timers.New()
	must(t, k, sets("a", 1, 8), sets("zero", 0, 8), sets("far", 1e300, infinity))
	for _, key := range []string{"a", "zero", "far"} {
		for range 999999 {
			if err := k.Again(key); err != nil {
				t.Fatal(err)
			}
		}
	}
	for _, times := range []int{999999, 1000000, 1000000, 1000000} {
		at(t, k, "a", k.Now()+8, times)
		at(t, k, "zero", k.Now(), times)
		at(t, k, "far", infinity, times)
		must(t, k, ticks(1), again("a"), again("zero"), again("far"))
	}
	must(t, k, sets("a", 1, 8), again("a"))
	at(t, k, "a", k.Now()+2, 1)
}

func TestDrop(t *testing.T) {
	k := timers.New()
	for _, key := range []string{"", "a"} {
		if k.Drop(key) {
			t.Errorf("there was a timer of %q", key)
		}
	}
	must(t, k, sets("a", 1, 8), sets("b", 2, 8), sets("", 3, 8), ticks(10), again("a"))
	for _, key := range []string{"A", "c", "ab", "a\x00"} {
		if k.Drop(key) {
			t.Errorf("there was a timer of %q", key)
		}
	}
	if k.Len() != 3 {
		t.Errorf("there are %d timers", k.Len())
	}
	must(t, k, drops("a"))
	if k.Drop("a") || k.Len() != 2 {
		t.Errorf("it was dropped, and there are %d", k.Len())
	}
	if time, times, there := k.At("a"); !same(time, 0) || times != 0 || there {
		t.Errorf("one that was dropped is at %v, %d, %v", time, times, there)
	}
	due(t, k, "b", "")
	must(t, k, sets("a", 1, 8))
	at(t, k, "a", 11, 0)
	must(t, k, drops("b"), drops(""), drops("a"))
	empty(t, k)
	if !same(k.Now(), 10) {
		t.Errorf("it is %v", k.Now())
	}
}

// TestDueEdges is of timers just ahead of now, at it and just behind it.
func TestDueEdges(t *testing.T) {
	for _, now := range []float64{smallest, 2 * smallest, normal, 1, 3, 1 << 53, greatest / 2, greatest} {
		k := timers.New()
		must(t, k,
			sets("behind", math.Nextafter(now, infinity), infinity),
			sets("at", now, infinity),
			sets("ahead", math.Nextafter(now, 0), infinity),
			sets("never", infinity, infinity),
			ticks(now))
		due(t, k, "ahead", "at")
		next(t, k, math.Nextafter(now, 0))
	}
	k := timers.New()
	must(t, k, sets("zero", 0, 1), sets("minus zero", minusZero, 1), sets("smallest", smallest, 1))
	due(t, k, "minus zero", "zero")
	at(t, k, "minus zero", 0, 0)
	next(t, k, 0)
}

// TestDueAtInfinity is of a clock at infinity: all are due, in the order of their times.
func TestDueAtInfinity(t *testing.T) {
	k := timers.New()
	must(t, k, sets("d", infinity, infinity), sets("c", greatest, infinity), sets("b", 7, 7), sets("a", infinity, infinity), ticks(greatest))
	due(t, k, "b", "c")
	must(t, k, ticks(greatest), sets("e", 0, 0), sets("A", 1, 1))
	due(t, k, "b", "c", "A", "a", "d", "e")
	next(t, k, 7)
	must(t, k, drops("b"), drops("c"))
	next(t, k, infinity)
	must(t, k, again("a"))
	at(t, k, "a", infinity, 1)
	due(t, k, "A", "a", "d", "e")
}

// TestDueOrder sets timers of some times and keys in thrown orders: they are due in one order.
func TestDueOrder(t *testing.T) {
	want := []string{
		"", "\x00", "\x00\x00", "\x01", "10", "2", "A", "AB", "B", "a", "a\x00", "a\x00b", "aa", "ab", "b", "\u00e9", "\u00ff", "\u0100", "\U0001F600", "\xf5", "\xff", "\xff\x00", "\xff\xff",
		"z1", "\xff\xfe", "a2", "z2",
	}
	// The last four have times of their own, ahead of and behind that of the others.
	delay := map[string]float64{"z1": 2, "\xff\xfe": 3, "a2": math.Nextafter(4, 0), "z2": 4}
	dice := rand.New(rand.NewSource(13))
	for range 50 {
		k := timers.New()
		for _, i := range dice.Perm(len(want)) {
			by, is := delay[want[i]]
			if !is {
				by = 1
			}
			must(t, k, sets(want[i], by, 9))
		}
		must(t, k, ticks(4))
		for range 3 {
			due(t, k, want...)
		}
	}
	// A time is held ahead of a key, also where the one that comes first has the greatest one.
	k := timers.New()
	must(t, k, sets("a", 3, 9), sets("b", 2, 9), sets("c", 1, 9), ticks(3))
	due(t, k, "c", "b", "a")
}

// TestDueOfAll is of as many timers as may be, of all bytes as keys.
func TestDueOfAll(t *testing.T) {
	for first := 0; first < 256; first += 64 {
		k, w := made()
		var want []string
		for i := range 64 {
			want = append(want, string([]byte{byte(first + i)}))
			does(t, k, w, sets(string([]byte{byte(first + 63 - i)}), 1, 1))
		}
		must(t, k, ticks(1))
		due(t, k, want...)
	}
}

func TestNext(t *testing.T) {
	k := timers.New()
	must(t, k, sets("a", infinity, infinity))
	next(t, k, infinity)
	must(t, k, sets("b", 5, 5))
	next(t, k, 5)
	must(t, k, sets("c", 3, 5), sets("d", 4, 5))
	next(t, k, 3)
	must(t, k, ticks(3), again("c"))
	next(t, k, 4)
	must(t, k, drops("d"))
	next(t, k, 5)
	must(t, k, ticks(100))
	next(t, k, 5)
	must(t, k, drops("b"))
	next(t, k, 8)
	must(t, k, drops("c"))
	next(t, k, infinity)
	must(t, k, drops("a"))
	empty(t, k)
}

// TestNextOfAll is of the one timer with the least time among as many as may be.
func TestNextOfAll(t *testing.T) {
	for i := range 64 {
		k, w := filled(t)
		does(t, k, w, ticks(20))
		for one := range 64 {
			does(t, k, w, sets(strconv.Itoa(one), 3, 3))
		}
		does(t, k, w, sets(strconv.Itoa(i), 2, 2))
		next(t, k, 22)
	}
}

// TestAskingChangesNothing asks a clock all that it may be asked, of right keys and others.
func TestAskingChangesNothing(t *testing.T) {
	k, w := filled(t)
	does(t, k, w, ticks(6))
	for range 20 {
		k.Now()
		k.Due()
		k.Next()
		k.At("5")
		k.At("no such key")
		k.Len()
		holds(t, k, w, nil)
	}
	if k.Len() != 64 {
		t.Errorf("there are %d timers", k.Len())
	}
}

// TestAnswersAreTheCallersOwn changes a list that is answered.
func TestAnswersAreTheCallersOwn(t *testing.T) {
	k := timers.New()
	must(t, k, sets("a", 1, 5), sets("b", 1, 5), sets("c", 2, 5), ticks(1))
	list, other := k.Due(), k.Due()
	list[0] = "c"
	_ = append(list[:1], "x", "y", "z")
	due(t, k, "a", "b")
	if !slices.Equal(other, []string{"a", "b"}) {
		t.Errorf("what was answered has become %q", other)
	}
	must(t, k, drops("a"), ticks(1), again("b"))
	if !slices.Equal(other, []string{"a", "b"}) {
		t.Errorf("what was answered has become %q", other)
	}
	due(t, k, "c")
}

// TestClocksAreApart is of two clocks: what one is told, the other one doesn't know.
func TestClocksAreApart(t *testing.T) {
	x, w := made()
	y, v := made()
	does(t, x, w, sets("a", 1, 5), ticks(2), again("a"))
	does(t, y, v, sets("b", 2, 5), sets("a", 7, 7), ticks(1), drops("b"))
	holds(t, x, w, nil)
	does(t, x, w, drops("a"))
	holds(t, y, v, nil)
}

// TestAllShortOrders is P13.1 of all orders of up to four calls of these.
func TestAllShortOrders(t *testing.T) {
	list := []call{
		ticks(0), ticks(1), ticks(2.5), ticks(infinity), ticks(-1),
		sets("a", 1, 5), sets("a", 2, 1), sets("a", 0, 3), sets("b", 1, 4), sets("b", infinity, infinity), sets("b", minusZero, 9), sets("c", 3, 3), sets("b", 1, -1), sets("c", math.NaN(), 1),
		again("a"), again("b"), again("c"), drops("a"), drops("b"), drops("d"),
	}
	var grow func(ahead []call)
	grow = func(ahead []call) {
		k, w := made()
		does(t, k, w, ahead...)
		if len(ahead) == 4 {
			return
		}
		for _, c := range list {
			grow(append(slices.Clip(ahead), c))
		}
	}
	grow(nil)
}

// TestLongOrders is P13.1 of long orders of thrown calls, up to as many timers as may be.
func TestLongOrders(t *testing.T) {
	dice := rand.New(rand.NewSource(13))
	full, none, many := 0, 0, 0
	for order := range 80 {
		k, w := made()
		for range 400 {
			does(t, k, w, thrown(dice, order))
			if len(w.timers) == api.MaxTimers {
				full++
			}
			if len(w.timers) == 0 {
				none++
			}
			if len(w.due()) > 3 {
				many++
			}
		}
	}
	if full < 1000 || none < 200 || many < 5000 {
		t.Errorf("the orders are too tame: full %d times, empty %d times, many are due %d times", full, none, many)
	}
}

// thrown is a call of few keys in one order, of many, which are seldom dropped, in another one.
func thrown(dice *rand.Rand, order int) call {
	keys, drop := 5, 30
	if order%2 == 1 {
		keys, drop = 200, 2
	}
	key := strconv.Itoa(dice.Intn(keys))
	delay := func() float64 {
		switch n := dice.Intn(40); {
		case n == 0:
			return wrongs()[dice.Intn(len(wrongs()))]
		case n < 4 && order%4 < 2:
			return delays()[dice.Intn(len(delays()))]
		case n < 20:
			return float64(dice.Intn(8))
		}
		return math.Ldexp(dice.Float64(), dice.Intn(20)-10)
	}
	switch n := dice.Intn(100); {
	case n < drop:
		return drops(key)
	case n < 50:
		return again(key)
	case n < 65:
		return ticks(delay())
	}
	return sets(key, delay(), delay())
}
