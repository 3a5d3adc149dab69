package journal_test

import (
	"bytes"
	"math"
	"slices"
	"strings"
	"testing"

	"liaison/api"
	"liaison/journal"
	"liaison/tape"
)

func TestLimits(t *testing.T) {
	if api.MaxRow != 200 || api.MaxTape != 65536 {
		t.Fatalf("the tests are made for other limits than %d and %d bytes", api.MaxRow, api.MaxTape)
	}
}

// TestFrameByHand is of frames whose sums are known.
func TestFrameByHand(t *testing.T) {
	for _, c := range []struct{ row, want string }{
		{"123456789", "\x00\x09123456789\xCB\xF4\x39\x26"},
		{"a", "\x00\x01a\xE8\xB7\xBE\x43"},
		{"\x00\x00\x00\x00", "\x00\x04\x00\x00\x00\x00\x21\x44\xDF\x1C"},
	} {
		if b, err := journal.Frame([]byte(c.row)); err != nil || string(b) != c.want {
			t.Errorf("Frame(%q) answers %x, %v, not %x", c.row, b, err, c.want)
		}
	}
}

func TestFrame(t *testing.T) {
	for many := 1; many <= 200; many++ {
		row := rowOf(many)
		if b, err := journal.Frame([]byte(row)); err != nil || string(b) != framed(row) {
			t.Errorf("Frame of %d bytes answers %x, %v", many, b, err)
		}
	}
	for _, row := range noRows() {
		if b, err := journal.Frame([]byte(row)); err != api.ErrForm || b != nil {
			t.Errorf("Frame of %d bytes answers %x, %v", len(row), b, err)
		}
	}
	if b, err := journal.Frame(nil); err != api.ErrForm || b != nil {
		t.Errorf("Frame of nil answers %x, %v", b, err)
	}
}

// noRows is texts that are no rows: at the edges, and such as have a row's count in fewer bits.
func noRows() []string {
	list := []string{""}
	for _, many := range []int{201, 202, 255, 256, 257, 256 + 200, 1000, 65535, 65536, 65537, 65536 + 200, 1 << 20} {
		list = append(list, rowOf(many))
	}
	return list
}

// TestExample is the chapter's: of the row that is put ahead, and two behind it whose power goes at the Sync, whatever is kept.
func TestExample(t *testing.T) {
	for keep := range 20 {
		x := newTape(t, 100, "")
		j := opened(t, x)
		if err := j.Put([]byte("a")); err != nil {
			t.Fatal(err)
		}
		x.Arm(1)
		if err := j.Put([]byte("b"), []byte("c")); err != api.ErrPower || !j.Dead() {
			t.Fatalf("Put whose power goes at its Sync answers %v; dead: %v", err, j.Dead())
		}
		holds(t, j, "a")
		x.Crash(keep)
		want := []string{"a", "b", "c"}[:1+min(keep/7, 2)]
		holds(t, opened(t, x), want...)
	}
}

// TestRowsByHand is each call by hand, where all goes well.
func TestRowsByHand(t *testing.T) {
	x := newTape(t, 100, "")
	j := opened(t, x)
	holds(t, j)
	for _, step := range []struct {
		call func(rows ...[]byte) error
		rows []string
		want []string
	}{
		{j.Put, []string{"a"}, []string{"a"}},
		{j.Put, []string{"bc", "d"}, []string{"a", "bc", "d"}},
		{j.Put, []string{"a", "a"}, []string{"a", "bc", "d", "a", "a"}},
		{j.Put, nil, []string{"a", "bc", "d", "a", "a"}},
		{j.Compact, []string{"efg", "a"}, []string{"efg", "a"}},
		{j.Put, []string{"h"}, []string{"efg", "a", "h"}},
		{j.Compact, nil, nil},
		{j.Put, []string{"i", "j"}, []string{"i", "j"}},
	} {
		if err := step.call(bytesOf(step.rows)...); err != nil {
			t.Fatal(err)
		}
		holds(t, j, step.want...)
		holds(t, opened(t, x), step.want...)
		if string(x.Bytes()) != framedAll(step.want...) || x.Sure() != len(x.Bytes()) {
			t.Fatalf("of the rows %q the tape has %q, %d of it sure", step.want, x.Bytes(), x.Sure())
		}
	}
}

// reads fails if a journal that is opened on these bytes hasn't these rows, or its tape isn't cut behind them.
func reads(t *testing.T, b string, rows ...string) {
	t.Helper()
	x := newTape(t, api.MaxTape, b)
	holds(t, opened(t, x), rows...)
	kept := framedAll(rows...)
	if string(x.Bytes()) != kept || x.Sure() != len(kept) {
		t.Fatalf("of %q a journal that is opened leaves %q, %d of it sure", b, x.Bytes(), x.Sure())
	}
	// What is left is whole: it is read to the same.
	holds(t, opened(t, x), rows...)
}

func TestOpen(t *testing.T) {
	long := rowOf(200)
	reads(t, "")
	reads(t, framedAll("a"), "a")
	reads(t, framedAll("a", "bc", "def"), "a", "bc", "def")
	reads(t, framedAll(long, "a", long), long, "a", long)
	reads(t, framedAll("\x00", "\x00\x00\x00", "\xFF"), "\x00", "\x00\x00\x00", "\xFF")
	// A row may be a frame itself, and what looks like one.
	reads(t, framedAll(framed("a"), "\x00\x01"), framed("a"), "\x00\x01")
	for many := 1; many <= 200; many++ {
		row := rowOf(many)
		reads(t, framedAll(row, "a", row), row, "a", row)
	}
}

// TestOpenWrongFrames is of bytes that are no frame: ahead of a right one, and behind one.
func TestOpenWrongFrames(t *testing.T) {
	for _, wrong := range []string{
		"\x00", "\x01", "\xFF", "\x00\x00", "\x00\x01", "\x00\xC8", "\x00\xC9", "\xFF\xFF", "\x80\x00", "abc", "\x00\x01a", "\x00\x01a\xE8\xB7\xBE",
		"\x00\x00\x00\x00\x00\x00", "\x00\x01a\xE8\xB7\xBE\x44", "\x00\x01a\x43\xBE\xB7\xE8", "\x01\x00a\xE8\xB7\xBE\x43", "\x01\x01a\xE8\xB7\xBE\x43", "\x00\x02a\xE8\xB7\xBE\x43",
		"\x00\x01\x00\x00\x00\x00\x00", framed(""), framed(rowOf(201)), framed(rowOf(255)), framed(rowOf(256)), framed(rowOf(257)), framed(rowOf(256 + 200)), framed(rowOf(65535)[:60000]),
		// The sum of the count and the row.
		"\x00\x01a" + framed("\x00\x01a")[5:],
	} {
		for _, behind := range []string{"", framed("a"), framedAll("bc", "d")} {
			reads(t, wrong+behind)
			reads(t, framed("a")+wrong+behind, "a")
			reads(t, framedAll("a", "bc")+wrong+behind, "a", "bc")
		}
	}
}

// TestOpenHalfFrames is of frames that aren't whole, at each length: those ahead are read.
func TestOpenHalfFrames(t *testing.T) {
	rows := []string{"a", rowOf(3), rowOf(200), "b"}
	whole := framedAll(rows...)
	for keep := range len(whole) + 1 {
		want, _ := unframed(whole[:keep])
		if keep == len(whole) && len(want) != 4 {
			t.Fatal("the words don't read all rows")
		}
		reads(t, whole[:keep], want...)
	}
}

// TestOpenChangedBytes is of each byte of three frames changed to each other one: the rows ahead of it are read, and none from it on.
func TestOpenChangedBytes(t *testing.T) {
	rows := []string{"a", "bcd", "ef"}
	whole := framedAll(rows...)
	for place := range len(whole) {
		ahead := 0
		for place >= len(framedAll(rows[:ahead+1]...)) {
			ahead++
		}
		for change := 1; change < 256; change++ {
			b := []byte(whole)
			b[place] ^= byte(change)
			reads(t, string(b), rows[:ahead]...)
		}
	}
}

// TestOpenShortBytes is of all bytes up to five of six kinds, and of short ones behind a frame: none of them has a frame.
func TestOpenShortBytes(t *testing.T) {
	kinds := "\x00\x01\x02\xC8\xC9a"
	var grow func(b string)
	grow = func(b string) {
		reads(t, b)
		reads(t, framed("x")+b, "x")
		if len(b) == 5 {
			return
		}
		for i := range len(kinds) {
			grow(b + kinds[i:i+1])
		}
	}
	grow("")
}

// TestOpenCut is of what Open does to a tape: a Cut, if bytes are left, also of a tail; else nothing, not even a step.
func TestOpenCut(t *testing.T) {
	for _, left := range []string{"\x00", "x", framed("b")[:6], framed("") + framed("b")} {
		x := newTape(t, 100, framed("a"))
		if err := x.Append([]byte(framed("c") + left)); err != nil {
			t.Fatal(err)
		}
		x.Arm(0)
		if j, err := journal.Open(x); err != api.ErrPower || j != nil || !x.Off() {
			t.Errorf("Open where %q is left, without power, answers %v, %v", left, j, err)
		}
		if j, err := journal.Open(x); err != api.ErrPower || j != nil {
			t.Errorf("Open where the power is off answers %v, %v", j, err)
		}
		if string(x.Bytes()) != framedAll("a", "c")+left || x.Sure() != 7 {
			t.Errorf("Open without power leaves %q, %d of it sure", x.Bytes(), x.Sure())
		}
		x.Crash(100)
		x.Arm(1)
		holds(t, opened(t, x), "a", "c")
		if string(x.Bytes()) != framedAll("a", "c") || x.Sure() != 14 || x.Sync() != api.ErrPower {
			t.Errorf("Open where %q is left doesn't do one Cut", left)
		}
	}
}

func TestOpenWithoutCut(t *testing.T) {
	for _, b := range []string{"", framed("a"), framedAll("a", "bc")} {
		rows, _ := unframed(b + framed("d"))
		x := newTape(t, 100, b)
		if err := x.Append([]byte(framed("d"))); err != nil {
			t.Fatal(err)
		}
		x.Arm(0)
		holds(t, opened(t, x), rows...)
		if x.Off() || x.Sure() != len(b) || string(x.Bytes()) != b+framed("d") {
			t.Errorf("Open where nothing is left: off %v, %d bytes sure", x.Off(), x.Sure())
		}
		if err := x.Sync(); err != api.ErrPower {
			t.Fatal(err)
		}
		// Nothing is to be cut: the power isn't asked.
		holds(t, opened(t, x), rows...)
	}
}

// TestOpenSmallRoom is of a room that is less than there is: it is no matter of Open's.
func TestOpenSmallRoom(t *testing.T) {
	x := newTape(t, 100, framedAll("a", "b")+"\x00")
	if err := x.SetRoom(3); err != nil {
		t.Fatal(err)
	}
	holds(t, opened(t, x), "a", "b")
	if len(x.Bytes()) != 14 {
		t.Errorf("Open leaves %d bytes", len(x.Bytes()))
	}
}

func TestOpenWithoutTape(t *testing.T) {
	if j, err := journal.Open(nil); err != api.ErrPanic || j != nil {
		t.Errorf("Open of no tape answers %v, %v", j, err)
	}
}

func TestFullTape(t *testing.T) {
	for _, many := range []int{1, 2, 57, 200} {
		d := newDesk(t, api.MaxTape, "")
		var rows []string
		for len(framedAll(rowOf(many)))*(len(rows)+1) <= api.MaxTape {
			rows = append(rows, rowOf(many))
		}
		d.do(puts(append(slices.Clone(rows), "a")...))
		d.do(puts(rows...), opens(), compacts(rows...), opens())
		d.do(puts(rowOf(many)), puts(rowOf(200)), compacts(append(rows, rowOf(many))...))
		if d.journal.Len() != len(rows) || d.journal.Dead() {
			t.Errorf("a full journal has %d rows", d.journal.Len())
		}
		d.do(compacts(), puts(rows[1:]...), puts(rows[0]), opens())
	}
}

// TestRowByRow fills a tape with one row after the other.
func TestRowByRow(t *testing.T) {
	x := newTape(t, api.MaxTape, "")
	j := opened(t, x)
	for i := range api.MaxTape / 7 {
		if err := j.Put([]byte{byte(i)}); err != nil {
			t.Fatalf("Put of row %d answers %v", i, err)
		}
	}
	if err := j.Put([]byte{0}); err != api.ErrFull || j.Len() != api.MaxTape/7 || j.Size() != api.MaxTape/7*7 {
		t.Errorf("behind the last row Put answers %v; Len %d, Size %d", err, j.Len(), j.Size())
	}
	for i, row := range opened(t, x).Rows() {
		if len(row) != 1 || row[0] != byte(i) {
			t.Fatalf("row %d is %x", i, row)
		}
	}
}

// TestEdgesOfRoom is of rooms around what rows want.
func TestEdgesOfRoom(t *testing.T) {
	for room := range 60 {
		for _, rows := range [][]string{{"a"}, {"a", "bc"}, {"abcdefgh"}, {"a", "b", "c"}} {
			d := newDesk(t, room, "")
			d.do(puts(rows...), puts(rows...), opens())
			d.do(compacts(rows...), compacts(), puts(rows...), puts(), opens())
			want := []string(nil)
			if len(framedAll(rows...)) <= room {
				want = rows
			}
			holds(t, d.journal, want...)
		}
	}
}

// TestFullChangesNothing is of ErrFull: no step is done, nothing has changed, and the journal lives.
func TestFullChangesNothing(t *testing.T) {
	for _, o := range []op{puts("c"), puts("c", "d"), puts(rowOf(200)), compacts("a", "b", "c"), compacts(rowOf(200))} {
		for _, lasts := range []int{0, 1, 2} {
			d := newDesk(t, 20, framedAll("a", "b"))
			d.do(arms(lasts), o, o)
			if err := o.call(d); err != api.ErrFull || d.journal.Dead() || d.tape.Off() {
				t.Errorf("%s without room answers %v; dead %v, off %v", o.name, err, d.journal.Dead(), d.tape.Off())
			}
			holds(t, d.journal, "a", "b")
			d.lasts()
			d.do(o, crashes(0), rooms(1000), o, opens())
		}
	}
}

// TestNoRows is of what is no row, at each place among right ones: nothing is done, not even with the right ones ahead.
func TestNoRows(t *testing.T) {
	for _, wrong := range noRows() {
		for _, rows := range [][]string{{wrong}, {wrong, "c"}, {"c", wrong}, {"c", wrong, "d"}, {"c", rowOf(200), wrong}, {wrong, wrong}} {
			for _, o := range []op{puts(rows...), compacts(rows...)} {
				d := newDesk(t, 1000, framedAll("a", "b"))
				d.do(arms(1), o)
				if err := o.call(d); err != api.ErrForm || d.journal.Dead() {
					t.Errorf("%s answers %v; dead %v", o.name, err, d.journal.Dead())
				}
				holds(t, d.journal, "a", "b")
				d.lasts()
				d.do(o, crashes(0), opens())
			}
		}
	}
	d := newDesk(t, 1000, framed("a"))
	if d.journal.Put(nil) != api.ErrForm || d.journal.Compact(nil) != api.ErrForm || d.journal.Put([]byte("b"), nil) != api.ErrForm {
		t.Error("nil is taken for a row")
	}
	d.do()
}

// TestOrderOfErrors is of calls that more than one error applies to: a dead journal, what is no row, no room, no power.
func TestOrderOfErrors(t *testing.T) {
	long := rowOf(150)
	for _, c := range []struct {
		dead bool
		room int
		rows []string
		want error
	}{
		{true, 0, []string{"", long}, api.ErrState}, {true, 0, []string{long}, api.ErrState}, {true, 900, []string{""}, api.ErrState}, {true, 900, []string{"b"}, api.ErrState},
		{false, 0, []string{long, ""}, api.ErrForm}, {false, 900, []string{"b", ""}, api.ErrForm}, {false, 0, []string{long}, api.ErrFull}, {false, 900, []string{"b"}, api.ErrPower},
	} {
		for _, o := range []op{puts(c.rows...), compacts(c.rows...)} {
			d := newDesk(t, 100, framed("a"))
			d.do(arms(0))
			if c.dead {
				d.do(puts("x"))
			} else if err := d.tape.Sync(); err != d.words.tape.Sync() || !d.tape.Off() {
				t.Fatal(err)
			}
			d.do(rooms(c.room))
			if err := o.call(d); err != c.want || d.journal.Dead() != (c.dead || c.want == api.ErrPower) {
				t.Errorf("%s, dead %v, with a room of %d, without power, answers %v, not %v", o.name, c.dead, c.room, err, c.want)
			}
			holds(t, d.journal, "a")
		}
	}
}

// TestOfNoRows is of calls without rows: Put does nothing, Compact a Swap.
func TestOfNoRows(t *testing.T) {
	for _, room := range []int{0, 7, 100} {
		d := newDesk(t, 100, framed("a"))
		d.do(appends("x"), rooms(room), arms(0), puts())
		if d.tape.Off() || d.journal.Put() != nil || d.journal.Put([][]byte{}...) != nil {
			t.Error("Put of no rows does something")
		}
		d.do(puts("", ""), puts())
		d.lasts()
		d.do(puts())
		if d.journal.Put() != nil || d.journal.Dead() {
			t.Error("Put of no rows asks for power")
		}
		d.do(compacts())
		if !d.journal.Dead() || d.journal.Put() != api.ErrState || d.journal.Compact() != api.ErrState {
			t.Error("a dead journal takes no rows")
		}
		d.do(crashes(1), opens(), arms(1), compacts())
		d.lasts()
		holds(t, d.journal)
		d.do(crashes(0), opens())
	}
}

// TestSteps is of how many steps each call takes: one Append and one Sync, or one Swap.
func TestSteps(t *testing.T) {
	for _, c := range []struct {
		op    op
		steps int
	}{
		{puts("a"), 2}, {puts("a", "b", "c"), 2}, {puts(rowOf(200), rowOf(200)), 2}, {puts(), 0},
		{compacts("a"), 1}, {compacts("a", "b", "c"), 1}, {compacts(), 1},
	} {
		for lasts := range 5 {
			d := newDesk(t, 1000, framed("x"))
			d.do(arms(lasts))
			d.do(c.op)
			if d.journal.Dead() != (lasts < c.steps) {
				t.Errorf("%s with power for %d steps: dead %v", c.op.name, lasts, d.journal.Dead())
			}
			d.lasts()
			d.do(c.op)
		}
	}
}

// TestDead is of a journal that has died: it stays so, whatever becomes of the tape, and has the rows that it had.
func TestDead(t *testing.T) {
	for _, dies := range []op{puts("c"), puts("c", "d"), compacts("c"), compacts()} {
		for lasts := range 2 {
			d := newDesk(t, 1000, framedAll("a", "b"))
			d.do(arms(lasts), dies)
			if !d.journal.Dead() {
				d.do(dies)
			}
			had := textsOf(d.journal.Rows())
			d.do(puts("e"), compacts("e"), puts(), compacts(), puts(""), compacts(""))
			d.do(arms(-1), puts("e"), crashes(100), puts("e"), compacts("e"), rooms(0), puts("e"))
			if !d.journal.Dead() || d.tape.Off() {
				t.Errorf("behind %s: dead %v, off %v", dies.name, d.journal.Dead(), d.tape.Off())
			}
			holds(t, d.journal, had...)
			d.do(rooms(1000), opens(), puts("e"), compacts("f"))
		}
	}
}

func TestNothingHandedInIsChangedOrKept(t *testing.T) {
	for _, call := range []func(j *journal.Journal, rows ...[]byte) error{(*journal.Journal).Put, (*journal.Journal).Compact} {
		x := newTape(t, 100, "")
		j := opened(t, x)
		space := []byte("abcdefghij")
		list := [][]byte{space[:2], space[2:3], []byte("z")}
		if err := call(j, list[:2]...); err != nil {
			t.Fatal(err)
		}
		if string(space) != "abcdefghij" || len(list) != 3 || string(list[2]) != "z" {
			t.Errorf("what is handed in is changed to %q, %q", space, list)
		}
		space[0], space[2] = 'X', 'Y'
		list[1] = []byte("other")
		holds(t, j, "ab", "c")
		if err := j.Put([]byte("d")); err != nil {
			t.Fatal(err)
		}
		if string(space) != "XbYdefghij" || string(list[2]) != "z" {
			t.Errorf("a later Put changes what was handed in to %q, %q", space, list)
		}
		holds(t, j, "ab", "c", "d")
		holds(t, opened(t, x), "ab", "c", "d")
	}
	space := []byte("abcdefghij")
	b, err := journal.Frame(space[:3])
	if err != nil || string(space) != "abcdefghij" {
		t.Errorf("Frame changes what is handed in to %q", space)
	}
	space[0] = 'X'
	if string(b) != framed("abc") {
		t.Errorf("what Frame answered is changed to %q", b)
	}
}

func TestAnswersAreTheCallersOwn(t *testing.T) {
	x := newTape(t, 100, framedAll("ab", "c"))
	for range 2 {
		j := opened(t, x)
		if err := j.Put([]byte("d"), []byte("e")); err != nil {
			t.Fatal(err)
		}
		want := textsOf(j.Rows())
		first, second := j.Rows(), j.Rows()
		for i := range first {
			_ = append(first[i], "XXXXXXXX"...)
			first[i][0] = 'X'
		}
		first[0] = nil
		_ = append(first[:1], []byte("Y"), []byte("Z"))
		holds(t, j, want...)
		if !slices.Equal(textsOf(second), want) {
			t.Errorf("what Rows answered is changed to %q", second)
		}
		second[1][0] = 'Y'
		if err := j.Compact([]byte("f"), []byte("g")); err != nil {
			t.Fatal(err)
		}
		if string(second[0]) != want[0] {
			t.Errorf("a later Compact changes what Rows answered to %q", second)
		}
		holds(t, j, "f", "g")
		holds(t, opened(t, x), "f", "g")
	}
}

// TestRowsThatAreAnswered is of rows that are put and compacted as they were answered.
func TestRowsThatAreAnswered(t *testing.T) {
	x := newTape(t, 100, framedAll("ab", "c"))
	j := opened(t, x)
	if err := j.Put(j.Rows()...); err != nil {
		t.Fatal(err)
	}
	holds(t, j, "ab", "c", "ab", "c")
	if err := j.Compact(j.Rows()[1:3]...); err != nil {
		t.Fatal(err)
	}
	holds(t, j, "c", "ab")
	same := []byte("s")
	if err := j.Put(same, same, same); err != nil {
		t.Fatal(err)
	}
	holds(t, opened(t, x), "c", "ab", "s", "s", "s")
}

// TestJournalsAreApart is of journals on two tapes: what one is told, the other one doesn't know.
func TestJournalsAreApart(t *testing.T) {
	d, e := newDesk(t, 50, ""), newDesk(t, 60, framed("x"))
	d.do(puts("a"), arms(0), puts("b"))
	e.do(puts("1", "2"), compacts("3"))
	d.do()
	e.do(arms(1), puts("4"))
	d.do(crashes(0), opens(), puts("c"))
	e.do(crashes(3), opens())
	holds(t, d.journal, "a", "c")
	holds(t, e.journal, "3")
}

// TestTapeIsUsedAsItIs is of a tape that is changed below a journal: the rows are those that it had, till one is opened anew.
func TestTapeIsUsedAsItIs(t *testing.T) {
	d := newDesk(t, 100, framedAll("a", "b"))
	d.do(onTape("Cut 7", func(x *tape.Tape) error { return x.Cut(7) }), puts("c"))
	holds(t, d.journal, "a", "b", "c")
	d.do(opens())
	holds(t, d.journal, "a", "c")
	d.do(appends("x"), puts("d"))
	holds(t, d.journal, "a", "c", "d")
	d.do(opens())
	holds(t, d.journal, "a", "c")
}

// shortOps is the calls that short orders are made of, on a tape of 30 bytes.
func shortOps() []op {
	return []op{
		opens(), puts(), puts("a"), puts("b", "cd"), puts("", "a"), puts("a", rowOf(201)), puts(rowOf(20)), puts(rowOf(200)),
		compacts(), compacts("e"), compacts("f", "gh"), compacts("a", ""), compacts(rowOf(200)),
		arms(-1), arms(0), arms(1), arms(2), crashes(-1), crashes(0), crashes(7), crashes(9), crashes(math.MaxInt), rooms(10), rooms(30), appends("\x00"), appends(framed("i")),
	}
}

// TestAllShortOrders is P7.1 of all orders of up to four calls of these.
func TestAllShortOrders(t *testing.T) {
	ops := shortOps()
	most := 4
	if testing.Short() {
		most = 3
	}
	var grow func(ahead []op)
	grow = func(ahead []op) {
		newDesk(t, 30, "").do(ahead...)
		if len(ahead) == most {
			return
		}
		for _, o := range ops {
			grow(append(ahead[:len(ahead):len(ahead)], o))
		}
	}
	grow(nil)
}

// TestLongOrders is P7.1 of long orders of thrown calls.
func TestLongOrders(t *testing.T) {
	below := thrown(7)
	for range 300 {
		most := []int{3, 40, 230}[below(3)]
		d := newDesk(t, 30+below(20*most), "")
		for range 200 {
			d.do(thrownOp(below, most))
		}
	}
}

// thrownOp is a call with rows of up to so many bytes.
func thrownOp(below func(int) int, most int) op {
	switch below(16) {
	case 0, 1, 2, 3, 4:
		return puts(thrownRows(below, most)...)
	case 5, 6, 7:
		return compacts(thrownRows(below, most)...)
	case 8:
		return rooms(below(20 * most))
	case 9, 10:
		return arms(below(7) - 1)
	case 11, 12:
		return crashes(below(3*most) - 2)
	case 13:
		return appends(rowOf(below(9)))
	default:
		return opens()
	}
}

func thrownRows(below func(int) int, most int) []string {
	var rows []string
	for range below(4) {
		// Most of them are rows.
		rows = append(rows, rowOf(max(below(most), min(below(9), 1))))
	}
	return rows
}

// act is a Put, or a Compact, of rows.
type act struct {
	compacts bool
	rows     []string
}

// histories is what is done to journals whose power goes.
func histories() [][]act {
	put := func(rows ...string) act { return act{rows: rows} }
	compact := func(rows ...string) act { return act{true, rows} }
	long := rowOf(200)
	return [][]act{
		{put("a")},
		{put("a", "bc", "def")},
		{put("a"), put("b", "c")},
		{put("a", "a"), put("a"), put("a", "a", "a")},
		{put(long), put(long, "b", long), put("c")},
		{put("a"), compact("b"), put("c")},
		{put("a", "b", "c"), compact("b"), put("d", "e"), compact("b", "d"), put("f")},
		{compact(), put("a"), compact(), put("b", "c")},
		{compact("a", long), compact("a", "b"), compact(), compact(long)},
		{put(framed("a"), "\x00"), put("\x00\x00", "\x00\x01"), compact("\x00\x01a"), put("\x00\x01")},
	}
}

func (a act) do(j *journal.Journal) error {
	if a.compacts {
		return j.Compact(bytesOf(a.rows)...)
	}
	return j.Put(bytesOf(a.rows)...)
}

// after is the rows behind it, if there were these ahead.
func (a act) after(rows []string) []string {
	if a.compacts {
		return a.rows
	}
	return slices.Concat(rows, a.rows)
}

// between tells whether rows are such as may be there, if its power went where there were these ahead.
func (a act) between(ahead, rows []string) bool {
	if slices.Equal(rows, ahead) || slices.Equal(rows, a.after(ahead)) {
		return true
	}
	return !a.compacts && len(rows) > len(ahead) && slices.Equal(rows, a.after(ahead)[:min(len(rows), len(ahead)+len(a.rows))])
}

// goes does a history up to where the power goes: the rows whose calls had no error, and the act that had one.
func goes(t *testing.T, x *tape.Tape, history []act) (known []string, broken *act) {
	t.Helper()
	j := opened(t, x)
	for i, a := range history {
		switch err := a.do(j); err {
		case nil:
			known = a.after(known)
		case api.ErrPower:
			holds(t, j, known...)
			return known, &history[i]
		default:
			t.Fatalf("act %d of %v answers %v", i, history, err)
		}
	}
	return known, nil
}

// TestPowerGoes is P7.2: of each history the power goes at each step, and of the tail each count of bytes is kept.
func TestPowerGoes(t *testing.T) {
	for _, history := range histories() {
		for lasts := 0; ; lasts++ {
			x := newTape(t, 2000, "")
			x.Arm(lasts)
			known, broken := goes(t, x, history)
			tail := len(x.Bytes()) - x.Sure()
			for keep := -1; keep <= tail+1; keep++ {
				again := newTape(t, 2000, "")
				again.Arm(lasts)
				goes(t, again, history)
				again.Crash(keep)
				kept := checkKept(t, again, known, broken)
				want := slices.Clone(known)
				if tail > 0 {
					// The power went at a Sync: the rows whose frames are kept whole are there.
					rows, _ := unframed(framedAll(broken.rows...)[:min(max(keep, 0), tail)])
					want = append(want, rows...)
				}
				if !slices.Equal(kept, want) {
					t.Fatalf("%v, power for %d steps, %d bytes kept: there are %.20q, not %.20q", history, lasts, keep, kept, want)
				}
			}
			if broken == nil {
				break
			}
		}
	}
}

// checkKept is the rows of a tape behind a crash; it fails if these aren't such as may be there, or can't be gone on from.
func checkKept(t *testing.T, x *tape.Tape, known []string, broken *act) []string {
	t.Helper()
	x.Arm(0)
	if _, err := journal.Open(x); err != nil {
		// The power goes once more, at the Cut: that changes nothing.
		x.Crash(0)
	}
	x.Arm(-1)
	j := opened(t, x)
	rows := textsOf(j.Rows())
	if broken == nil && !slices.Equal(rows, known) || broken != nil && !broken.between(known, rows) {
		t.Fatalf("of %.20q, and %v that was broken, there are %.20q", known, broken, rows)
	}
	more := []string{"more", strings.Repeat("m", 200)}
	if err := j.Put(bytesOf(more)...); err != nil {
		t.Fatal(err)
	}
	holds(t, opened(t, x), slices.Concat(rows, more)...)
	if !bytes.Equal(x.Bytes(), []byte(framedAll(slices.Concat(rows, more)...))) {
		t.Fatalf("behind a crash and a Put the tape has %q", x.Bytes())
	}
	return rows
}

// TestFullThenPowerGoes is P7.2 where a call had ErrFull ahead: its rows are never there.
func TestFullThenPowerGoes(t *testing.T) {
	full := []act{{rows: []string{rowOf(30)}}, {true, []string{rowOf(30), "b"}}}
	for _, wrong := range full {
		for lasts := range 4 {
			for keep := range 20 {
				x := newTape(t, 30, framed("a"))
				j := opened(t, x)
				x.Arm(lasts)
				if err := wrong.do(j); err != api.ErrFull {
					t.Fatal(err)
				}
				known := []string{"a"}
				if err := j.Put([]byte("b"), []byte("c")); err == nil {
					known = []string{"a", "b", "c"}
				}
				if err := wrong.do(j); (err == api.ErrState) != j.Dead() {
					t.Fatal(err)
				}
				x.Crash(keep)
				rows := textsOf(opened(t, x).Rows())
				if len(rows) < len(known) || !slices.Equal(rows, []string{"a", "b", "c"}[:len(rows)]) {
					t.Fatalf("power for %d steps, %d bytes kept: there are %.20q", lasts, keep, rows)
				}
			}
		}
	}
}
