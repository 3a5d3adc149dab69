package letter_test

import (
	"bytes"
	"encoding/hex"
	"math"
	"slices"
	"strings"
	"testing"

	"liaison/api"
	"liaison/fields"
	"liaison/letter"
)

// is tells whether an error is the very one that is wanted, nil too.
func is(err, want error) bool {
	if err == nil || want == nil {
		return err == nil && want == nil
	}
	return err == want
}

// dice answers numbers that are spread, the same ones each time.
func dice(seed uint64) func(below int) int {
	return func(below int) int {
		seed = seed*6364136223846793005 + 1442695040888963407
		return int(seed>>33) % below
	}
}

// raw is the bytes of a text of hexadecimal digits, blanks between them.
func raw(text string) []byte {
	b, err := hex.DecodeString(strings.ReplaceAll(text, " ", ""))
	if err != nil {
		panic(err)
	}
	return b
}

// sample is a right message, and its bytes.
type sample struct {
	m api.Message
	b []byte
}

// samples is right messages, with their bytes written by hand: some of each kind whose rules are its own, and of each number's edges.
func samples() []sample {
	return []sample{
		{api.Message{Kind: api.Exit, From: 1, Act: api.Act{Seq: 2}, Part: 3}, raw("01000101 02000101 05000102 07000103")},
		{api.Message{Kind: api.Exit}, raw("01000101")},
		{api.Message{Kind: api.NotCompleted, From: 3, To: 3, Act: api.Act{Node: 3, Seq: 999999}, Reg: 5, Part: 7}, raw("0100010e 02000103 03000103 04000103 0500030f423f 06000105 07000107")},
		{api.Message{Kind: api.GetStatus, To: 2, Act: api.Act{Node: 2, Seq: 255}}, raw("0100010f 03000102 04000102 050001ff")},
		{api.Message{Kind: api.Cancel, Act: api.Act{Seq: 256}, Reg: 1}, raw("0100010a 0500020100 06000101")},
		{api.Message{Kind: api.Closed, Act: api.Act{Node: 1, Seq: 65535}}, raw("01000107 04000101 050002ffff")},
		{api.Message{Kind: api.Failed, Act: api.Act{Seq: 65536}}, raw("0100010c 050003010000")},
		{api.Message{Kind: api.Status, From: 1, Code: api.Active}, raw("01000110 02000101 09000101")},
		{api.Message{Kind: api.Status, Reg: 4, Code: api.Ended}, raw("01000110 06000104 0900010e")},
		{api.Message{Kind: api.Register, From: 2, To: 1, Act: api.Act{Node: 1, Seq: 17}, Part: 6, Protocol: api.PC}, raw("01000111 02000102 03000101 04000101 05000111 07000106 08000101")},
		{api.Message{Kind: api.Register, Protocol: api.CC}, raw("01000111 08000102")},
		{api.Message{Kind: api.Registered, From: 1, To: 2, Reg: 5, Protocol: api.CC}, raw("01000112 02000101 03000102 06000105 08000102")},
		{api.Message{Kind: api.Registered, Protocol: api.PC}, raw("01000112 08000101")},
		{api.Message{Kind: api.Fault, Part: 1, Code: api.InvalidState}, raw("01000113 07000101 09000101")},
		{api.Message{Kind: api.Fault, To: 1, Reg: 2, Code: api.UnknownActivity}, raw("01000113 03000101 06000102 09000105")},
	}
}

func TestLimits(t *testing.T) {
	if api.MaxNodes != 4 || api.MaxSeq != 1000000 || api.MaxRegs != 6 || api.MaxParts != 8 || api.MaxBytes != 1000 {
		t.Fatalf("the tests are made for other limits than %d nodes, %d numbers, %d registrations, %d participants, %d bytes", api.MaxNodes, api.MaxSeq, api.MaxRegs, api.MaxParts, api.MaxBytes)
	}
}

// encodes fails if Right or Encode doesn't answer what the chapter says, or what is encoded isn't decoded to the same; it answers whether the message is right.
func encodes(t *testing.T, m api.Message) bool {
	t.Helper()
	want, wantErr := encoded(m)
	if got := letter.Right(m); got != (wantErr == nil) {
		t.Fatalf("Right(%+v) answers %v", m, got)
	}
	b, err := letter.Encode(m)
	if !is(err, wantErr) || string(b) != want || err != nil && b != nil {
		t.Fatalf("Encode(%+v) answers %x, %v, not %x, %v", m, b, err, want, wantErr)
	}
	if err != nil {
		return false
	}
	if back, err := letter.Decode(b); err != nil || back != m {
		t.Fatalf("what is encoded of %+v is decoded to %+v, %v", m, back, err)
	}
	return true
}

// decodes fails if Decode doesn't answer what the chapter says, or what is decoded isn't encoded to the same bytes; it answers whether there is a message.
func decodes(t *testing.T, b []byte) bool {
	t.Helper()
	was := bytes.Clone(b)
	m, err := letter.Decode(b)
	if want, wantErr := decoded(was); !is(err, wantErr) || m != want {
		t.Fatalf("Decode(%x) answers %+v, %v, not %+v, %v", was, m, err, want, wantErr)
	}
	if !bytes.Equal(b, was) {
		t.Fatalf("Decode changes %x to %x", was, b)
	}
	if err != nil {
		return false
	}
	if again, err := letter.Encode(m); err != nil || !bytes.Equal(again, was) {
		t.Fatalf("what is decoded of %x is encoded to %x, %v", was, again, err)
	}
	return true
}

func TestSamples(t *testing.T) {
	for _, s := range samples() {
		if !letter.Right(s.m) {
			t.Errorf("Right(%+v) answers false", s.m)
		}
		if b, err := letter.Encode(s.m); err != nil || !bytes.Equal(b, s.b) {
			t.Errorf("Encode(%+v) answers %x, %v, not %x", s.m, b, err, s.b)
		}
		if m, err := letter.Decode(s.b); err != nil || m != s.m {
			t.Errorf("Decode(%x) answers %+v, %v, not %+v", s.b, m, err, s.m)
		}
	}
}

// strange is numbers of which most are out of all ranges: at the edges, and such as are right in fewer bits.
func strange() []int {
	list := []int{
		-1, -2, -255, -256, 255, 256, 257, 258, 999999, 1000000, 1000001, 1 << 24, math.MaxInt32, 1 << 31, 1<<32 - 1, 1 << 32, 1<<32 + 1, 1<<32 + 2,
		math.MinInt32, -1 << 32, -1<<32 + 1, 1<<56 + 1, math.MaxInt - 1, math.MaxInt, math.MinInt, math.MinInt + 1,
	}
	for n := range 24 {
		list = append(list, n)
	}
	return list
}

// TestOneNumberStrange is of right messages in which each number in turn is each one of many.
func TestOneNumberStrange(t *testing.T) {
	for _, s := range samples() {
		for tag := 1; tag <= 9; tag++ {
			for _, n := range strange() {
				numbers := numbersOf(s.m)
				numbers[tag] = n
				encodes(t, messageOf(numbers))
			}
		}
	}
}

// TestKindsRules is of what hangs on the kind: each one with each protocol, code and Reg, up to behind their edges.
func TestKindsRules(t *testing.T) {
	rights := map[int]int{}
	for kind := -1; kind <= 21; kind++ {
		for protocol := -1; protocol <= 3; protocol++ {
			for code := -1; code <= 16; code++ {
				for reg := -1; reg <= 7; reg++ {
					if encodes(t, api.Message{Kind: kind, From: 1, Reg: reg, Part: 2, Protocol: protocol, Code: code}) {
						rights[kind]++
					}
				}
			}
		}
	}
	for kind := -1; kind <= 21; kind++ {
		want := 6
		switch {
		case kind < 1 || kind > 19:
			want = 0
		case kind == api.Status:
			want = 6 * 14
		case kind == api.Register:
			want = 2
		case kind == api.Registered:
			want = 6 * 2
		case kind == api.Fault:
			want = 6 * 5
		}
		if rights[kind] != want {
			t.Errorf("of kind %d %d messages are right, not %d", kind, rights[kind], want)
		}
	}
}

// TestThereAndBack is P8.2 of all right messages whose activities have the first number or the last one.
func TestThereAndBack(t *testing.T) {
	seen := map[string]bool{}
	for kind := 1; kind <= 19; kind++ {
		for protocol := range 3 {
			for code := range 15 {
				m := api.Message{Kind: kind, Protocol: protocol, Code: code}
				if right(m) {
					everywhere(t, m, seen)
				}
			}
		}
	}
	if want := 2 * 4 * 4 * 4 * 8 * (6*(15+14+2+5) + 2); len(seen) != want {
		t.Errorf("%d messages have bytes of their own, not %d", len(seen), want)
	}
}

// everywhere is of a message between all nodes, of all activities, registrations and participants; it keeps the bytes that were seen.
func everywhere(t *testing.T, m api.Message, seen map[string]bool) {
	t.Helper()
	for i := range 4 * 4 * 4 * 6 * 8 {
		m.From, m.To, m.Act.Node, m.Reg, m.Part = i%4, i/4%4, i/16%4, i/64%6, i/384
		for _, seq := range []int{0, 999999} {
			m.Act.Seq = seq
			if encodes(t, m) {
				b, _ := letter.Encode(m)
				seen[string(b)] = true
			}
		}
	}
}

// TestActivities is of numbers that an activity may have, all over their range.
func TestActivities(t *testing.T) {
	for seq := 0; seq < 1000000; seq += 7 {
		if m := (api.Message{Kind: api.Complete, Act: api.Act{Node: seq % 4, Seq: seq}}); !encodes(t, m) {
			t.Fatalf("%+v isn't right", m)
		}
	}
}

// thrown is a message by dice, right or nearly so.
func thrown(roll func(int) int) api.Message {
	m := api.Message{
		Kind: 1 + roll(19), From: roll(4), To: roll(4), Act: api.Act{Node: roll(4), Seq: roll(1 << roll(20))}, Reg: roll(6), Part: roll(8),
	}
	switch m.Kind {
	case api.Register:
		m.Reg, m.Protocol = 0, 1+roll(2)
	case api.Registered:
		m.Protocol = 1 + roll(2)
	case api.Status:
		m.Code = 1 + roll(14)
	case api.Fault:
		m.Code = 1 + roll(5)
	}
	numbers := numbersOf(m)
	for range roll(3) {
		numbers[1+roll(9)] = strange()[roll(len(strange()))]
	}
	return messageOf(numbers)
}

func TestThrownMessages(t *testing.T) {
	roll := dice(8)
	counts := map[bool]int{}
	for range 100000 {
		counts[encodes(t, thrown(roll))]++
	}
	if counts[true] < 10000 || counts[false] < 10000 {
		t.Errorf("of the thrown messages %d were right, %d wrong: too few", counts[true], counts[false])
	}
}

// refused fails if bytes are decoded, or not with the error that is wanted.
func refused(t *testing.T, what string, b []byte, want error) {
	t.Helper()
	if m, err := letter.Decode(b); !is(err, want) || m != (api.Message{}) {
		t.Errorf("Decode of %s answers %+v, %v, not %v", what, m, err, want)
	}
	decodes(t, b)
}

func TestDecodeOfWrongRows(t *testing.T) {
	refused(t, "nil", nil, api.ErrForm)
	for _, c := range []struct {
		what, b string
		want    error
	}{
		{"nothing", "", api.ErrForm},
		{"one byte", "01", api.ErrShort},
		{"half a head", "0100", api.ErrShort},
		{"a head without its byte", "010001", api.ErrShort},
		{"half a head behind a right message", "01000101 02", api.ErrShort},
		{"a field cut short behind a right message", "01000101 0500020f", api.ErrShort},
		{"one byte more, 0", "01000101 00", api.ErrShort},
		{"a field of tag 0", "00000101 01000101", api.ErrForm},
		{"tag 0 behind a right message", "01000101 000000", api.ErrForm},
		{"a tag twice", "01000101 01000101", api.ErrForm},
		{"tags that fall", "02000101 01000101", api.ErrForm},
		{"tags that fall, without its byte", "02000101 010001", api.ErrForm},
		{"a count's bytes turned", "01010001", api.ErrForm},
		{"tag 10", "01000101 0a000101", api.ErrForm},
		{"tag 10 without bytes", "01000101 0a0000", api.ErrForm},
		{"tag 255", "01000101 ff000101", api.ErrForm},
		{"tag 10 alone", "0a000101", api.ErrForm},
		{"tag 10 ahead of one that is short", "01000101 0a000101 0b0002", api.ErrShort},
		{"no bytes ahead of a field that is short", "010000 0200", api.ErrShort},
		{"a wrong number ahead of a field that is short", "01000100 020001", api.ErrShort},
		{"a wrong message ahead of a field that is short", "010001ff 020001", api.ErrShort},
		{"a wrong number ahead of tags that fall", "01000100 01000101", api.ErrForm},
		{"no Kind", "02000101 05000102", api.ErrForm},
	} {
		refused(t, c.what, raw(c.b), c.want)
	}
}

// TestDecodeOfWrongNumbers is of each field's bytes in turn: what isn't a number's, and numbers out of range.
func TestDecodeOfWrongNumbers(t *testing.T) {
	wrong := []string{
		"", "00", "0000", "0001", "000102", "ff", "0101", "010001", "01000001", "0f4240", "0f4241", "ffffff", "0100000001", "0100000000000001",
		"7fffffffffffffff", "8000000000000000", "8000000000000001", "ffffffffffffffff", "0000000000000001", "00ffffffffffffffff",
		"010000000000000001", "010000000000000000", strings.Repeat("01", 200), strings.Repeat("00", 200), strings.Repeat("ff", 200),
	}
	for _, s := range samples() {
		for tag := 1; tag <= 9; tag++ {
			for _, digits := range wrong {
				b := altered(s.b, tag, raw(digits))
				inSeq := tag == 5 && slices.Contains([]string{"ff", "0101", "010001"}, digits)
				if decodes(t, b) != inSeq {
					t.Errorf("Decode(%x): tag %d has %s", b, tag, digits)
				}
				if !inSeq {
					refused(t, "a wrong number", b, api.ErrForm)
				}
			}
		}
	}
}

// altered is a row's bytes with other ones in the field of a tag, be it there or not.
func altered(b []byte, tag int, data []byte) []byte {
	row, err := fields.Split(b)
	if err != nil {
		panic(err)
	}
	at, found := slices.BinarySearchFunc(row, tag, func(f api.Field, tag int) int { return f.Tag - tag })
	if !found {
		row = slices.Insert(row, at, api.Field{Tag: tag})
	}
	row[at].Data = data
	if b, err = fields.Join(row...); err != nil {
		panic(err)
	}
	return b
}

// longRow is a right row of so many bytes: such as are told, and behind them fields that no message has.
func longRow(many int, ahead string) []byte {
	b := raw(ahead)
	for tag := byte(20); len(b) < many; tag++ {
		left := many - len(b) - 3
		size := min(200, left)
		if behind := left - size; 0 < behind && behind < 3 {
			// For a further head there would be no room.
			size -= 3
		}
		b = append(append(b, tag, 0, byte(size)), bytes.Repeat([]byte{1}, size)...)
	}
	return b
}

// TestDecodeOfLongBytes is of the edge of MaxBytes: up to there it is the row's error, beyond it ErrLong, whatever the bytes are.
func TestDecodeOfLongBytes(t *testing.T) {
	for _, ahead := range []string{"", "01000101", "01000101 02000101 05000102 07000103"} {
		for many := 900; many <= 1100; many++ {
			want := api.ErrForm
			if many > 1000 {
				want = api.ErrLong
			}
			refused(t, "a long row", longRow(many, ahead), want)
		}
	}
	for _, c := range []struct {
		what string
		b    []byte
		want error
	}{
		{"1000 bytes of a row", longRow(1000, "01000101"), api.ErrForm},
		{"1001 bytes of a row", longRow(1001, "01000101"), api.ErrLong},
		{"1000 bytes, a row cut short", longRow(1010, "01000101")[:1000], api.ErrShort},
		{"1001 bytes, a row cut short", longRow(1010, "01000101")[:1001], api.ErrLong},
		{"1000 bytes, all 0", make([]byte, 1000), api.ErrForm},
		{"1001 bytes, all 0", make([]byte, 1001), api.ErrLong},
		{"3000 bytes of a row", longRow(3000, ""), api.ErrLong},
		{"a message, and 0 up to 1000 bytes", append(raw("01000101"), make([]byte, 996)...), api.ErrForm},
		{"a message, and 0 up to 1001 bytes", append(raw("01000101"), make([]byte, 997)...), api.ErrLong},
		{"a great many bytes", make([]byte, 1<<20), api.ErrLong},
	} {
		refused(t, c.what, c.b, c.want)
	}
	if row := longRow(1001, "01000101"); len(row) != 1001 {
		t.Errorf("a row of 1001 bytes has %d", len(row))
	} else if _, err := fields.Split(row); err != nil {
		t.Errorf("a long row isn't right: %v", err)
	}
}

// TestDecodeOfChangedBytes is of right bytes with each byte changed, left out or put in, and of all their beginnings and ends.
func TestDecodeOfChangedBytes(t *testing.T) {
	for _, s := range samples() {
		for i := range len(s.b) + 1 {
			decodes(t, s.b[:i])
			decodes(t, s.b[i:])
			for value := range 256 {
				decodes(t, slices.Insert(bytes.Clone(s.b), i, byte(value)))
				if i < len(s.b) {
					changed := bytes.Clone(s.b)
					changed[i] = byte(value)
					decodes(t, changed)
				}
			}
			if i < len(s.b) {
				decodes(t, slices.Delete(bytes.Clone(s.b), i, i+1))
			}
		}
	}
}

// TestDecodeOfAllShortBytes is of all bytes up to 8 of few values, by which heads and numbers are told in many ways.
func TestDecodeOfAllShortBytes(t *testing.T) {
	many := 0
	var grow func(b []byte)
	grow = func(b []byte) {
		if decodes(t, b) {
			many++
		}
		if len(b) == 8 {
			return
		}
		for _, value := range []byte{0, 1, 2, 5, 19} {
			grow(append(b, value))
		}
	}
	grow(nil)
	if many < 20 {
		t.Errorf("of these bytes only %d are a message", many)
	}
}

// TestDecodeOfThrownRows is of rows of fields by dice whose numbers are small, or strange.
func TestDecodeOfThrownRows(t *testing.T) {
	roll := dice(9)
	counts := map[bool]int{}
	for range 100000 {
		b, _ := letter.Encode(thrown(roll))
		row, _ := fields.Split(b)
		for range roll(3) {
			if i := roll(10); i < len(row) {
				row[i].Data = append(row[i].Data, byte(roll(20)))[roll(2):]
			} else {
				row = append(row, api.Field{Tag: i + roll(3), Data: []byte{byte(roll(6))}})
			}
		}
		if joined, err := fields.Join(row...); err == nil {
			counts[decodes(t, joined)]++
		}
	}
	if counts[true] < 10000 || counts[false] < 10000 {
		t.Errorf("of the thrown rows %d were messages, %d not: too few", counts[true], counts[false])
	}
}

func TestAnswer(t *testing.T) {
	register := api.Message{Kind: api.Register, From: 1, To: 2, Act: api.Act{Node: 2, Seq: 17}, Part: 3, Protocol: api.CC}
	status := api.Message{Kind: api.Status, From: 3, To: 0, Act: api.Act{Node: 1, Seq: 5}, Reg: 4, Part: 7, Code: api.Closing}
	for _, c := range []struct {
		m          api.Message
		kind, code int
		want       api.Message
	}{
		{register, api.Fault, api.CannotRegister, api.Message{Kind: api.Fault, From: 2, To: 1, Act: api.Act{Node: 2, Seq: 17}, Part: 3, Code: api.CannotRegister}},
		{register, api.Registered, 0, api.Message{Kind: api.Registered, From: 2, To: 1, Act: api.Act{Node: 2, Seq: 17}, Part: 3}},
		{status, api.Closed, 0, api.Message{Kind: api.Closed, From: 0, To: 3, Act: api.Act{Node: 1, Seq: 5}, Reg: 4, Part: 7}},
		{status, api.Status, api.Ended, api.Message{Kind: api.Status, From: 0, To: 3, Act: api.Act{Node: 1, Seq: 5}, Reg: 4, Part: 7, Code: api.Ended}},
		{api.Message{}, 0, 0, api.Message{}},
		{api.Message{}, -1, math.MaxInt, api.Message{Kind: -1, Code: math.MaxInt}},
	} {
		if got := letter.Answer(c.m, c.kind, c.code); got != c.want {
			t.Errorf("Answer(%+v, %d, %d) answers %+v, not %+v", c.m, c.kind, c.code, got, c.want)
		}
	}
}

// TestAnswerOfAll is of messages and kinds of all sorts, right or not: nothing is asked, and each number stands where it is told.
func TestAnswerOfAll(t *testing.T) {
	roll := dice(10)
	for range 10000 {
		m := thrown(roll)
		kind, code := strange()[roll(len(strange()))], strange()[roll(len(strange()))]
		was, now := numbersOf(m), numbersOf(letter.Answer(m, kind, code))
		want := [10]int{0, kind, was[3], was[2], was[4], was[5], was[6], was[7], 0, code}
		if now != want {
			t.Fatalf("Answer(%+v, %d, %d) answers %v, not %v", m, kind, code, now, want)
		}
	}
}

func TestDownAndUp(t *testing.T) {
	down := map[int]bool{2: true, 9: true, 10: true, 11: true, 12: true, 13: true, 14: true}
	up := map[int]bool{1: true, 3: true, 4: true, 5: true, 6: true, 7: true, 8: true}
	for _, kind := range strange() {
		if got := letter.Down(kind); got != down[kind] {
			t.Errorf("Down(%d) answers %v", kind, got)
		}
		if got := letter.Up(kind); got != up[kind] {
			t.Errorf("Up(%d) answers %v", kind, got)
		}
	}
}

func TestAnswersAreTheCallers(t *testing.T) {
	s := samples()[0]
	first, _ := letter.Encode(s.m)
	second, _ := letter.Encode(s.m)
	for i := range first {
		first[i] = 0xEE
	}
	_ = append(first, 1, 2, 3)
	if third, _ := letter.Encode(s.m); !bytes.Equal(second, s.b) || !bytes.Equal(third, s.b) {
		t.Errorf("what Encode answers is shared: %x, %x", second, third)
	}
	m, _ := letter.Decode(second)
	clear(second)
	if m != s.m {
		t.Errorf("what Decode answers shows a later change: %+v", m)
	}
}
