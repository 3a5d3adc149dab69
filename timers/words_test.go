package timers_test

import (
	"fmt"
	"math"
	"slices"
	"sort"
	"testing"

	"liaison/api"
	"liaison/timers"
)

// The chapter's words, told anew: what the package answers is held against them.

// is tells whether an error is the very one that is wanted, nil too.
func is(err, want error) bool {
	if err == nil || want == nil {
		return err == nil && want == nil
	}
	return err == want
}

// same tells whether two floats have the same bits: zero isn't minus zero.
func same(a, b float64) bool {
	return math.Float64bits(a) == math.Float64bits(b)
}

// one is a timer.
type one struct {
	key        string
	at         float64
	times      int
	base, most float64
}

// words is a clock as the chapter's words tell it: its timers in the order in which they came.
type words struct {
	now    float64
	timers []one
}

// isDelay tells whether a float is zero, minus zero, above 0, or infinity.
func isDelay(x float64) bool {
	return x == 0 || x > 0 || math.IsInf(x, 1)
}

// doubled is a base doubled so many times, most at most. (What is above 0 is beyond all numbers by 5000 times.)
func doubled(base float64, times int, most float64) float64 {
	x := math.Ldexp(base, min(times, 5000))
	if x > most {
		return most
	}
	return x
}

// place is where the timer of a key stands, -1 if there is none.
func (w *words) place(key string) int {
	for i, t := range w.timers {
		if t.key == key {
			return i
		}
	}
	return -1
}

func (w *words) tick(by float64) error {
	if !isDelay(by) {
		return api.ErrForm
	}
	if by != 0 {
		w.now += by
	}
	return nil
}

func (w *words) set(key string, base, most float64) error {
	if !isDelay(base) || !isDelay(most) {
		return api.ErrForm
	}
	lesser := base
	if most < base {
		lesser = most
	}
	t := one{key, w.now + lesser, 0, base, most}
	i := w.place(key)
	switch {
	case i >= 0:
		w.timers[i] = t
	case len(w.timers) >= 64:
		return api.ErrFull
	default:
		w.timers = append(w.timers, t)
	}
	return nil
}

func (w *words) again(key string) error {
	i := w.place(key)
	if i < 0 {
		return api.ErrNone
	}
	t := &w.timers[i]
	if t.times < 1000000 {
		t.times++
	}
	t.at = w.now + doubled(t.base, t.times, t.most)
	return nil
}

func (w *words) drop(key string) bool {
	i := w.place(key)
	if i < 0 {
		return false
	}
	w.timers = append(slices.Clone(w.timers[:i]), w.timers[i+1:]...)
	return true
}

// due is the keys of the timers that are due, by their times, of one time by their bytes.
func (w *words) due() []string {
	var list []one
	for _, t := range w.timers {
		if t.at <= w.now {
			list = append(list, t)
		}
	}
	sort.Slice(list, func(i, j int) bool {
		if list[i].at != list[j].at {
			return list[i].at < list[j].at
		}
		return firstBytes(list[i].key, list[j].key)
	})
	var keys []string
	for _, t := range list {
		keys = append(keys, t.key)
	}
	return keys
}

// firstBytes tells whether a text is ahead of another one, byte by byte.
func firstBytes(a, b string) bool {
	for i := 0; i < len(a) && i < len(b); i++ {
		if a[i] != b[i] {
			return a[i] < b[i]
		}
	}
	return len(a) < len(b)
}

func (w *words) next() (float64, bool) {
	if len(w.timers) == 0 {
		return 0, false
	}
	least := w.timers[0].at
	for _, t := range w.timers {
		if t.at < least {
			least = t.at
		}
	}
	return least, true
}

func (w *words) at(key string) (float64, int, bool) {
	for _, t := range w.timers {
		if t.key == key {
			return t.at, t.times, true
		}
	}
	return 0, 0, false
}

// call is a call that changes a clock.
type call struct {
	name       string
	key        string
	base, most float64
}

// on lets a clock do a call.
func (c call) on(k *timers.Clock) (bool, error) {
	switch c.name {
	case "Tick":
		return false, k.Tick(c.base)
	case "Set":
		return false, k.Set(c.key, c.base, c.most)
	case "Again":
		return false, k.Again(c.key)
	}
	return k.Drop(c.key), nil
}

// words lets the chapter's words do a call.
func (c call) words(w *words) (bool, error) {
	switch c.name {
	case "Tick":
		return false, w.tick(c.base)
	case "Set":
		return false, w.set(c.key, c.base, c.most)
	case "Again":
		return false, w.again(c.key)
	}
	return w.drop(c.key), nil
}

// String is a call as it is told where a test fails.
func (c call) String() string {
	switch c.name {
	case "Tick":
		return fmt.Sprintf("Tick(%v)", c.base)
	case "Set":
		return fmt.Sprintf("Set(%q, %v, %v)", c.key, c.base, c.most)
	}
	return fmt.Sprintf("%s(%q)", c.name, c.key)
}

// made is a clock, and it in words.
func made() (*timers.Clock, *words) {
	return timers.New(), &words{}
}

// does does calls on a clock and in words; it fails if they don't answer the same, or the clock isn't as it is told behind the last.
func does(t *testing.T, k *timers.Clock, w *words, calls ...call) {
	t.Helper()
	for i, c := range calls {
		yes, err := c.on(k)
		if wantYes, want := c.words(w); yes != wantYes || !is(err, want) {
			t.Fatalf("%v: the last one answers %v, %v, not %v, %v", calls[:i+1], yes, err, wantYes, want)
		}
	}
	holds(t, k, w, calls)
}

// holds fails if a clock isn't as it is in words, behind some calls.
func holds(t *testing.T, k *timers.Clock, w *words, calls []call) {
	t.Helper()
	if now := k.Now(); !same(now, w.now) {
		t.Fatalf("behind %v it is %v, not %v", calls, now, w.now)
	}
	if n := k.Len(); n != len(w.timers) {
		t.Fatalf("behind %v there are %d timers, not %d", calls, n, len(w.timers))
	}
	if list, want := k.Due(), w.due(); !slices.Equal(list, want) {
		t.Fatalf("behind %v due are %q, not %q", calls, list, want)
	}
	least, there := k.Next()
	if want, wantThere := w.next(); !same(least, want) || there != wantThere {
		t.Fatalf("behind %v next is %v, %v, not %v, %v", calls, least, there, want, wantThere)
	}
	for _, key := range append(keysOf(w), "a", "b", "c", "no such key", "") {
		at, times, there := k.At(key)
		if want, wantTimes, wantThere := w.at(key); !same(at, want) || times != wantTimes || there != wantThere {
			t.Fatalf("behind %v %q is at %v, %d, %v, not %v, %d, %v", calls, key, at, times, there, want, wantTimes, wantThere)
		}
	}
}

// keysOf is the keys of all timers.
func keysOf(w *words) []string {
	var keys []string
	for _, t := range w.timers {
		keys = append(keys, t.key)
	}
	return keys
}

func ticks(by float64) call { return call{name: "Tick", base: by} }
func sets(key string, base, most float64) call {
	return call{name: "Set", key: key, base: base, most: most}
}
func again(key string) call { return call{name: "Again", key: key} }
func drops(key string) call { return call{name: "Drop", key: key} }
