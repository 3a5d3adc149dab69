package journal_test

import (
	"encoding/binary"
	"fmt"
	"hash/crc32"
	"slices"
	"strings"
	"testing"

	"liaison/api"
	"liaison/journal"
	"liaison/tape"
)

// framed is the frame of a text, also of one that is no row, as the chapter's words tell it.
func framed(row string) string {
	b := binary.BigEndian.AppendUint16(nil, uint16(len(row)))
	b = append(b, row...)
	return string(binary.BigEndian.AppendUint32(b, crc32.ChecksumIEEE([]byte(row))))
}

// framedAll is the frames of texts, one behind the other.
func framedAll(rows ...string) string {
	var b strings.Builder
	for _, row := range rows {
		b.WriteString(framed(row))
	}
	return b.String()
}

// unframed is the rows whose frames are whole from the first byte on, and what is left behind them.
func unframed(b string) (rows []string, left string) {
	for {
		row, ok := firstRow(b)
		if !ok {
			return rows, b
		}
		rows = append(rows, row)
		b = b[len(framed(row)):]
	}
}

// firstRow is the row whose frame bytes begin with, and whether there is one: each length that a row may have is tried.
func firstRow(b string) (string, bool) {
	for many := 1; many <= 200 && 2+many <= len(b); many++ {
		if strings.HasPrefix(b, string([]byte{0, byte(many)})) && strings.HasPrefix(b, framed(b[2:2+many])) {
			return b[2 : 2+many], true
		}
	}
	return "", false
}

// words is a journal as the chapter's words tell it, on a tape of its own.
type words struct {
	tape *tape.Tape
	rows []string
	dead bool
}

func (w *words) open() error {
	all := string(w.tape.Bytes())
	rows, left := unframed(all)
	if left != "" {
		if err := w.tape.Cut(len(all) - len(left)); err != nil {
			return err
		}
	}
	w.rows, w.dead = rows, false
	return nil
}

// refuses is the error that rows have ahead of all that is done on the tape.
func (w *words) refuses(rows []string) error {
	if w.dead {
		return api.ErrState
	}
	for _, row := range rows {
		if len(row) == 0 || len(row) > 200 {
			return api.ErrForm
		}
	}
	return nil
}

func (w *words) put(rows []string) error {
	err := w.refuses(rows)
	if err != nil || len(rows) == 0 {
		return err
	}
	err = w.tape.Append([]byte(framedAll(rows...)))
	if err == nil {
		err = w.tape.Sync()
	}
	return w.done(err, slices.Concat(w.rows, rows))
}

func (w *words) compact(rows []string) error {
	if err := w.refuses(rows); err != nil {
		return err
	}
	return w.done(w.tape.Swap([]byte(framedAll(rows...))), rows)
}

// done is what a tape's error makes of the journal, whose rows would else be these.
func (w *words) done(err error, rows []string) error {
	switch err {
	case nil:
		w.rows = rows
	case api.ErrPower:
		w.dead = true
	}
	return err
}

// desk is a tape and the journal that was opened on it last, and both in words.
type desk struct {
	t       *testing.T
	tape    *tape.Tape
	journal *journal.Journal
	words   words
}

// newDesk has a tape that some bytes were put on, and a journal opened on it.
func newDesk(t *testing.T, room int, b string) *desk {
	t.Helper()
	d := &desk{t: t, tape: newTape(t, room, b), words: words{tape: newTape(t, room, b)}}
	d.do(opens())
	return d
}

// newTape has these bytes, and they are sure.
func newTape(t *testing.T, room int, b string) *tape.Tape {
	t.Helper()
	x, err := tape.New(room)
	if err != nil {
		t.Fatal(err)
	}
	if err := x.Swap([]byte(b)); err != nil {
		t.Fatal(err)
	}
	return x
}

// op is a call, on the journal and in words.
type op struct {
	name string
	call func(d *desk) error
	tell func(w *words) error
}

// bytesOf is texts as the rows that a call is handed.
func bytesOf(rows []string) [][]byte {
	var list [][]byte
	for _, row := range rows {
		list = append(list, []byte(row))
	}
	return list
}

// textsOf is rows as texts.
func textsOf(rows [][]byte) []string {
	var list []string
	for _, row := range rows {
		list = append(list, string(row))
	}
	return list
}

func opens() op {
	return op{
		"Open",
		func(d *desk) error {
			j, err := journal.Open(d.tape)
			if (j == nil) != (err != nil) {
				d.t.Fatalf("Open answers %v beside %v", j, err)
			}
			if err == nil {
				d.journal = j
			}
			return err
		},
		(*words).open,
	}
}

func puts(rows ...string) op {
	return op{
		fmt.Sprintf("Put %.20q", rows),
		func(d *desk) error { return d.journal.Put(bytesOf(rows)...) },
		func(w *words) error { return w.put(rows) },
	}
}

func compacts(rows ...string) op {
	return op{
		fmt.Sprintf("Compact %.20q", rows),
		func(d *desk) error { return d.journal.Compact(bytesOf(rows)...) },
		func(w *words) error { return w.compact(rows) },
	}
}

// onTape is a call on the tape below the journal, the same one on that of the words.
func onTape(name string, call func(x *tape.Tape) error) op {
	return op{
		name,
		func(d *desk) error { return call(d.tape) },
		func(w *words) error { return call(w.tape) },
	}
}

func arms(steps int) op {
	return onTape(fmt.Sprint("Arm ", steps), func(x *tape.Tape) error { x.Arm(steps); return nil })
}

func crashes(keep int) op {
	return onTape(fmt.Sprint("Crash ", keep), func(x *tape.Tape) error { x.Crash(keep); return nil })
}

func rooms(room int) op {
	return onTape(fmt.Sprint("SetRoom ", room), func(x *tape.Tape) error { return x.SetRoom(room) })
}

func appends(b string) op {
	return onTape(fmt.Sprintf("Append %.20q", b), func(x *tape.Tape) error { return x.Append([]byte(b)) })
}

// do does ops on the journal and in words; it fails if they don't answer the same, or the journal and its tape aren't as it is told behind the last.
func (d *desk) do(ops ...op) {
	d.t.Helper()
	for i, o := range ops {
		if err, want := o.call(d), o.tell(&d.words); err != want {
			d.t.Fatalf("%s: the last one answers %v, not %v", names(ops[:i+1]), err, want)
		}
	}
	holds(d.t, d.journal, d.words.rows...)
	if d.journal.Dead() != d.words.dead {
		d.t.Fatalf("behind %s: dead %v, not %v", names(ops), d.journal.Dead(), d.words.dead)
	}
	x, y := d.tape, d.words.tape
	if string(x.Bytes()) != string(y.Bytes()) || x.Sure() != y.Sure() || x.Off() != y.Off() {
		d.t.Fatalf("behind %s the tape has %q, %d of it sure, off %v; not %q, %d, %v", names(ops), x.Bytes(), x.Sure(), x.Off(), y.Bytes(), y.Sure(), y.Off())
	}
}

// lasts fails if the steps that the power lasts, which are told, aren't as many as in words; it does them.
func (d *desk) lasts() {
	d.t.Helper()
	for {
		err, want := d.tape.Sync(), d.words.tape.Sync()
		if err != want {
			d.t.Fatalf("a step more answers %v, not %v", err, want)
		}
		if err != nil {
			return
		}
	}
}

func names(ops []op) string {
	var list []string
	for _, o := range ops {
		list = append(list, o.name)
	}
	return strings.Join(list, ", ")
}

// holds fails if a journal hasn't these rows.
func holds(t *testing.T, j *journal.Journal, rows ...string) {
	t.Helper()
	if got := textsOf(j.Rows()); !slices.Equal(got, rows) {
		t.Fatalf("there are the rows %.20q, not %.20q", got, rows)
	}
	if j.Len() != len(rows) || j.Size() != len(framedAll(rows...)) {
		t.Fatalf("Len %d, Size %d of the rows %.20q", j.Len(), j.Size(), rows)
	}
}

// opened is the journal of a tape.
func opened(t *testing.T, x *tape.Tape) *journal.Journal {
	t.Helper()
	j, err := journal.Open(x)
	if err != nil || j == nil {
		t.Fatalf("Open answers %v, %v", j, err)
	}
	if j.Dead() {
		t.Fatal("a journal that is opened is dead")
	}
	return j
}

// thrown makes what answers one number below a bound after the other, the same ones each time.
func thrown(seed uint64) func(bound int) int {
	return func(bound int) int {
		seed = seed*6364136223846793005 + 1442695040888963407
		return int((seed >> 33) % uint64(bound))
	}
}

// rowOf is a row of so many bytes of all kinds.
func rowOf(many int) string {
	next := thrown(uint64(many))
	b := make([]byte, many)
	for i := range b {
		b[i] = byte(next(256))
	}
	return string(b)
}
