package fields_test

import (
	"bytes"
	"encoding/hex"
	"errors"
	"math"
	"slices"
	"strings"
	"testing"

	"liaison/api"
	"liaison/fields"
	"liaison/floats"
)

// field is a field with a text's bytes.
func field(tag int, text string) api.Field {
	return api.Field{Tag: tag, Data: []byte(text)}
}

// long is a text of so many bytes.
func long(many int) string {
	return strings.Repeat("x", many)
}

// rising is a row of so many fields, the first one's tag being first.
func rising(first, many int) []api.Field {
	var list []api.Field
	for i := range many {
		list = append(list, field(first+i, "ab"[:i%3]))
	}
	return list
}

// is tells whether an error is the very one that is wanted, nil too.
func is(err, want error) bool {
	if err == nil || want == nil {
		return err == nil && want == nil
	}
	return err == want
}

// alike tells whether two rows have the same fields; no bytes are the same as nil.
func alike(a, b []api.Field) bool {
	return slices.EqualFunc(a, b, func(x, y api.Field) bool {
		return x.Tag == y.Tag && bytes.Equal(x.Data, y.Data)
	})
}

// deep is a row that shares nothing with another one.
func deep(list []api.Field) []api.Field {
	var out []api.Field
	for _, f := range list {
		out = append(out, api.Field{Tag: f.Tag, Data: bytes.Clone(f.Data)})
	}
	return out
}

// row is a right row, and its bytes.
type row struct {
	list []api.Field
	b    string
}

// rows is right rows, with their bytes written by hand.
func rows() []row {
	var most row
	for tag := 240; tag <= 255; tag++ {
		most.list = append(most.list, field(tag, long(api.MaxData)))
		most.b += string([]byte{byte(tag), 0, 200}) + long(200)
	}
	return []row{
		{nil, ""},
		{[]api.Field{field(1, "ab")}, "\x01\x00\x02ab"},
		{[]api.Field{field(1, "ab"), field(7, "")}, "\x01\x00\x02ab\x07\x00\x00"},
		{[]api.Field{{Tag: 3}}, "\x03\x00\x00"},
		{[]api.Field{field(255, "")}, "\xff\x00\x00"},
		{[]api.Field{field(1, "\x00"), field(2, "\xff\x00"), field(255, "c")}, "\x01\x00\x01\x00\x02\x00\x02\xff\x00\xff\x00\x01c"},
		{[]api.Field{field(127, "a"), field(128, "b"), field(129, "")}, "\x7f\x00\x01a\x80\x00\x01b\x81\x00\x00"},
		{[]api.Field{field(9, long(199))}, "\x09\x00\xc7" + long(199)},
		{[]api.Field{field(9, long(200)), field(10, "z")}, "\x09\x00\xc8" + long(200) + "\x0a\x00\x01z"},
		most,
	}
}

func TestLimits(t *testing.T) {
	if api.MaxFields != 16 || api.MaxData != 200 {
		t.Fatalf("the tests' rows are made for 16 fields of 200 bytes, not %d of %d", api.MaxFields, api.MaxData)
	}
}

func TestJoin(t *testing.T) {
	for _, r := range rows() {
		if b, err := fields.Join(r.list...); err != nil || string(b) != r.b {
			t.Errorf("Join of %v answers %x, %v, not %x", r.list, b, err, r.b)
		}
	}
}

func TestSplit(t *testing.T) {
	for _, r := range rows() {
		if list, err := fields.Split([]byte(r.b)); err != nil || !alike(list, r.list) {
			t.Errorf("Split of %x answers %v, %v, not %v", r.b, list, err, r.list)
		}
	}
	if list, err := fields.Split(nil); err != nil || len(list) != 0 {
		t.Errorf("Split of nil answers %v, %v", list, err)
	}
}

func TestJoinOfWrongRows(t *testing.T) {
	full := rising(1, api.MaxFields)
	for _, list := range [][]api.Field{
		{field(0, "a")}, {field(-1, "a")}, {field(256, "a")}, {field(257, "a")}, {field(math.MaxInt, "")}, {field(math.MinInt, "")}, {field(-255, "")},
		{field(1<<32+1, "a")}, {field(0, ""), field(1, "")}, {field(1, "a"), field(0, "b")}, {field(1, "a"), field(256, "b")}, {field(1, "a"), field(258, "b")},
		{field(1, ""), field(1, "")}, {field(255, ""), field(255, "")}, {field(2, "a"), field(1, "b")}, {field(255, "a"), field(1, "b")},
		{field(1, ""), field(3, ""), field(2, "")}, {field(1, ""), field(3, ""), field(3, "")}, {field(5, ""), field(6, ""), field(1, ""), field(7, "")},
		{field(1, long(201))}, {field(1, long(256))}, {field(1, long(65536))}, {field(1, long(65536+2))}, {field(1, "a"), field(2, long(201)), field(3, "b")},
		append(deep(full), field(17, "")), append(deep(full), field(255, "a")), append(deep(full), field(1, "a")), rising(1, 255), make([]api.Field, 1<<16),
	} {
		if b, err := fields.Join(list...); !is(err, api.ErrForm) || b != nil {
			t.Errorf("Join of a wrong row of %d (the last one's tag %d) answers %x, %v", len(list), list[len(list)-1].Tag, b, err)
		}
	}
	if _, err := fields.Join(full...); err != nil {
		t.Errorf("Join of %d fields answers %v", len(full), err)
	}
}

func TestSplitOfWrongBytes(t *testing.T) {
	full, _ := fields.Join(rising(1, api.MaxFields)...)
	ahead := string(full)
	for _, c := range []struct {
		what string
		b    string
		want error
	}{
		{"one byte", "\x01", api.ErrShort},
		{"half a head", "\x01\x00", api.ErrShort},
		{"half a head with tag 0", "\x00", api.ErrShort},
		{"most of a head with tag 0", "\x00\x00", api.ErrShort},
		{"half a head that has too many bytes", "\x01\xff", api.ErrShort},
		{"half a head behind a field", "\x01\x00\x01a\x02", api.ErrShort},
		{"half a head that doesn't rise", "\x02\x00\x01a\x01\x00", api.ErrShort},
		{"half a head behind all that may be", ahead + "\x20", api.ErrShort},
		{"most of a head behind all that may be", ahead + "\x20\x00", api.ErrShort},
		{"no bytes where there is one", "\x01\x00\x01", api.ErrShort},
		{"one of two bytes", "\x01\x00\x02a", api.ErrShort},
		{"199 of 200 bytes", "\x01\x00\xc8" + long(199), api.ErrShort},
		{"too few bytes behind a field", "\x01\x00\x00\x02\x00\x03ab", api.ErrShort},
		{"tag 0", "\x00\x00\x00", api.ErrForm},
		{"tag 0 with its byte", "\x00\x00\x01a", api.ErrForm},
		{"tag 0 without its byte", "\x00\x00\x01", api.ErrForm},
		{"tag 0 behind a field", "\x01\x00\x01a\x00\x00\x00", api.ErrForm},
		{"a tag twice", "\x01\x00\x00\x01\x00\x00", api.ErrForm},
		{"the last tag twice", "\xff\x00\x00\xff\x00\x00", api.ErrForm},
		{"a tag that falls", "\x02\x00\x01a\x01\x00\x01b", api.ErrForm},
		{"a tag that falls without its byte", "\x02\x00\x01a\x01\x00\x01", api.ErrForm},
		{"a tag that falls behind one that rises", "\x01\x00\x00\x03\x00\x00\x02\x00\x00", api.ErrForm},
		{"201 bytes", "\x01\x00\xc9" + long(201), api.ErrForm},
		{"200 of 201 bytes", "\x01\x00\xc9" + long(200), api.ErrForm},
		{"none of 201 bytes", "\x01\x00\xc9", api.ErrForm},
		{"256 bytes", "\x01\x01\x00" + long(256), api.ErrForm},
		{"65535 bytes", "\x01\xff\xff" + long(65535), api.ErrForm},
		{"none of 65535 bytes", "\x01\xff\xff", api.ErrForm},
		{"a count's bytes turned", "\x01\x02\x00ab", api.ErrForm},
		{"one more than may be", ahead + "\x20\x00\x00", api.ErrForm},
		{"one more than may be, too short", ahead + "\x20\x00\x05", api.ErrForm},
		{"a wrong field ahead of a short one", "\x00\x00\x00\x01\x00\x05", api.ErrForm},
		{"a short field that takes what is behind it", "\x01\x00\x05\x00\x00\x00", api.ErrShort},
		{"a field that falls ahead of half a head", "\x02\x00\x00\x02\x00\x00\x03", api.ErrForm},
		{"half a head behind a right one, its tag wrong", "\x02\x00\x00\x02\x00", api.ErrShort},
	} {
		if list, err := fields.Split([]byte(c.b)); !is(err, c.want) || list != nil {
			t.Errorf("Split of %s answers %v, %v, not %v", c.what, list, err, c.want)
		}
	}
}

// TestSplitOfBeginnings is of rows that are cut: between two fields the row is right, elsewhere short.
func TestSplitOfBeginnings(t *testing.T) {
	for _, r := range rows() {
		between := map[int]int{0: 0}
		at := 0
		for i, f := range r.list {
			at += 3 + len(f.Data)
			between[at] = i + 1
		}
		for n := range len(r.b) + 1 {
			list, err := fields.Split([]byte(r.b[:n]))
			if many, ok := between[n]; ok {
				if err != nil || !alike(list, r.list[:many]) {
					t.Errorf("Split of %d bytes, which are %d fields, answers %v, %v", n, many, list, err)
				}
			} else if !is(err, api.ErrShort) || list != nil {
				t.Errorf("Split of %d bytes, amid a field, answers %v, %v", n, list, err)
			}
		}
	}
}

// expected is what Split is to answer, of the words of the chapter one by one.
func expected(b []byte) ([]api.Field, error) {
	var list []api.Field
	for at := 0; at < len(b); {
		left := len(b) - at
		if left < 3 {
			return nil, api.ErrShort
		}
		tag, size := int(b[at]), 256*int(b[at+1])+int(b[at+2])
		switch {
		case tag == 0, len(list) > 0 && tag <= list[len(list)-1].Tag, size > 200, len(list) == 16:
			return nil, api.ErrForm
		case left-3 < size:
			return nil, api.ErrShort
		}
		list = append(list, api.Field{Tag: tag, Data: b[at+3 : at+3+size]})
		at += 3 + size
	}
	return list, nil
}

// splits fails if Split doesn't answer what is expected, or what is split isn't joined to the same bytes.
func splits(t *testing.T, b []byte) {
	t.Helper()
	was := bytes.Clone(b)
	list, err := fields.Split(b)
	want, wantErr := expected(b)
	if !is(err, wantErr) || !alike(list, want) || err != nil && list != nil {
		t.Fatalf("Split of %x answers %v, %v, not %v, %v", b, list, err, want, wantErr)
	}
	if !bytes.Equal(b, was) {
		t.Fatalf("Split of %x changes it to %x", was, b)
	}
	if err != nil {
		return
	}
	if again, err := fields.Join(list...); err != nil || !bytes.Equal(again, b) {
		t.Fatalf("what is split of %x is joined to %x, %v", b, again, err)
	}
}

// TestSplitOfAllShortBytes is of all bytes up to 7 of few kinds, by which heads and bytes are told in many ways.
func TestSplitOfAllShortBytes(t *testing.T) {
	kinds := []byte{0, 1, 2, 3, 200, 255}
	var grow func(b []byte)
	grow = func(b []byte) {
		splits(t, b)
		if len(b) == 7 {
			return
		}
		for _, kind := range kinds {
			grow(append(b, kind))
		}
	}
	grow(nil)
}

// dice answers numbers that are spread, the same ones each time.
func dice(seed uint64) func(below int) int {
	return func(below int) int {
		seed = seed*6364136223846793005 + 1442695040888963407
		return int(seed>>33) % below
	}
}

// thrown is a row by dice, right or nearly so.
func thrown(roll func(int) int) []api.Field {
	var list []api.Field
	tag := 0
	for range roll(18) {
		if tag += 1 + roll(17); roll(40) == 0 {
			tag -= roll(20)
		}
		data := make([]byte, roll(9))
		if roll(20) == 0 {
			data = make([]byte, 195+roll(8))
		}
		for i := range data {
			data[i] = byte(roll(256))
		}
		list = append(list, api.Field{Tag: tag, Data: data})
	}
	return list
}

// right tells whether a row is, of the words of the chapter one by one.
func right(list []api.Field) bool {
	for i, f := range list {
		if f.Tag < 1 || f.Tag > 255 || i > 0 && f.Tag <= list[i-1].Tag || len(f.Data) > 200 {
			return false
		}
	}
	return len(list) <= 16
}

// TestThereAndBack is P3.2, and P3.1 of what is changed on the way.
func TestThereAndBack(t *testing.T) {
	roll := dice(3)
	rightOnes, wrongOnes := 0, 0
	for range 4000 {
		list := thrown(roll)
		was := deep(list)
		b, err := fields.Join(list...)
		if !alike(list, was) {
			t.Fatalf("Join of %v changes it to %v", was, list)
		}
		if !right(list) {
			wrongOnes++
			if !is(err, api.ErrForm) || b != nil {
				t.Fatalf("Join of %v answers %x, %v", list, b, err)
			}
			continue
		}
		rightOnes++
		back, backErr := fields.Split(b)
		if err != nil || backErr != nil || !alike(back, list) {
			t.Fatalf("Join of %v answers %x, %v; split again %v, %v", list, b, err, back, backErr)
		}
		for range 5 {
			changed := bytes.Clone(b)
			for range 1 + roll(2) {
				if len(changed) > 0 {
					changed[roll(len(changed))] = byte(roll(256))
				}
			}
			splits(t, changed[:len(changed)-roll(len(changed)+1)/4])
			splits(t, append(changed, byte(roll(256)), byte(roll(2)), byte(roll(8))))
		}
	}
	if rightOnes < 500 || wrongOnes < 500 {
		t.Errorf("of the thrown rows %d were right, %d wrong: too few", rightOnes, wrongOnes)
	}
}

// TestAnswersAreTheCallers is of memory: an answer shares none with what was handed in, nor do two lists of one answer.
func TestAnswersAreTheCallers(t *testing.T) {
	list := []api.Field{field(1, "ab"), field(2, "cd"), field(3, "")}
	b, _ := fields.Join(list...)
	list[0].Data[0] = 'X'
	if string(b) != "\x01\x00\x02ab\x02\x00\x02cd\x03\x00\x00" {
		t.Errorf("what was joined has become %x", b)
	}
	split, _ := fields.Split(b)
	for i := range b {
		b[i] = 0
	}
	for i := range split {
		split[i].Data = append(split[i].Data[:0], "zzzzzzzzz"...)
		for j, want := range []string{"ab", "cd", ""}[i+1:] {
			if string(split[i+1+j].Data) != want {
				t.Errorf("field %d has become %q", i+1+j, split[i+1+j].Data)
			}
		}
	}
	if !bytes.Equal(b, make([]byte, len(b))) {
		t.Errorf("a field that was split is written to %x", b)
	}
	found, _ := fields.Find(list, 2)
	found = append(found[:0], "uvwxyz"...)
	if string(list[1].Data) != "cd" || string(found) != "uvwxyz" {
		t.Errorf("what was found is written to %q", list[1].Data)
	}
}

func TestFind(t *testing.T) {
	list := []api.Field{field(7, "a"), field(3, "b"), field(7, "c"), field(0, "d"), field(-4, "e"), field(3, ""), {Tag: 8}, field(8, "f"), field(math.MaxInt, long(500))}
	for _, c := range []struct {
		tag  int
		want string
		ok   bool
	}{
		{7, "a", true}, {3, "b", true}, {0, "d", true}, {-4, "e", true}, {8, "", true}, {math.MaxInt, long(500), true},
		{1, "", false}, {256 + 7, "", false}, {-1, "", false}, {math.MinInt, "", false},
	} {
		if b, ok := fields.Find(list, c.tag); ok != c.ok || string(b) != c.want || !ok && b != nil {
			t.Errorf("Find of tag %d answers %q, %v", c.tag, b, ok)
		}
	}
	for _, none := range [][]api.Field{nil, {}} {
		if b, ok := fields.Find(none, 0); ok || b != nil {
			t.Errorf("Find in no row answers %q, %v", b, ok)
		}
	}
}

// numbers is numbers with their bytes, in hexadecimal.
func numbers() map[int]string {
	return map[int]string{
		0: "", 1: "01", 2: "02", 127: "7f", 128: "80", 255: "ff", 256: "0100", 258: "0102", 511: "01ff", 512: "0200", 65280: "ff00", 65535: "ffff",
		65536: "010000", 1000000: "0f4240", 1<<24 - 1: "ffffff", 1 << 24: "01000000", 1<<32 - 1: "ffffffff", 1 << 32: "0100000000",
		1<<56 - 1: "ffffffffffffff", 1 << 56: "0100000000000000", 0x0102030405060708: "0102030405060708",
		math.MaxInt - 1: "7ffffffffffffffe", math.MaxInt: "7fffffffffffffff",
	}
}

func TestNumber(t *testing.T) {
	for n, want := range numbers() {
		if b, err := fields.Number(n); err != nil || hex.EncodeToString(b) != want {
			t.Errorf("Number(%d) answers %x, %v, not %s", n, b, err, want)
		}
		b, _ := hex.DecodeString(want)
		if got, err := fields.ToNumber(b); err != nil || got != n {
			t.Errorf("ToNumber of %s answers %d, %v, not %d", want, got, err, n)
		}
	}
	for _, n := range []int{-1, -2, -255, -256, -1 << 32, math.MinInt + 1, math.MinInt} {
		if b, err := fields.Number(n); !is(err, api.ErrRange) || b != nil {
			t.Errorf("Number(%d) answers %x, %v", n, b, err)
		}
	}
	if n, err := fields.ToNumber(nil); err != nil || n != 0 {
		t.Errorf("ToNumber of nil answers %d, %v", n, err)
	}
}

func TestNumberThereAndBack(t *testing.T) {
	for shift := range 63 {
		for _, n := range []int{1<<shift - 1, 1 << shift, 1<<shift + 1, 3 << shift >> 1} {
			if n < 0 {
				continue
			}
			b, err := fields.Number(n)
			if err != nil || len(b) > 0 && b[0] == 0 {
				t.Errorf("Number(%d) answers %x, %v", n, b, err)
			}
			if got, err := fields.ToNumber(b); err != nil || got != n {
				t.Errorf("ToNumber of Number(%d) answers %d, %v", n, got, err)
			}
		}
	}
}

func TestToNumberOfWrongBytes(t *testing.T) {
	for _, c := range []struct {
		b    string
		want error
	}{
		{"00", api.ErrForm}, {"0000", api.ErrForm}, {"0001", api.ErrForm}, {"00ff", api.ErrForm}, {"007fffffffffffff", api.ErrForm},
		// The first byte is asked ahead of how many there are.
		{"000000000000000001", api.ErrForm}, {"00ffffffffffffffff", api.ErrForm}, {"00" + strings.Repeat("ff", 20), api.ErrForm},
		{"8000000000000000", api.ErrRange}, {"8000000000000001", api.ErrRange}, {"ffffffffffffffff", api.ErrRange},
		{"010000000000000000", api.ErrRange}, {"7fffffffffffffffff", api.ErrRange}, {"010000000000000005", api.ErrRange}, {"01" + strings.Repeat("00", 100), api.ErrRange},
		{strings.Repeat("ff", 70000), api.ErrRange},
	} {
		b, _ := hex.DecodeString(c.b)
		if n, err := fields.ToNumber(b); !is(err, c.want) || n != 0 {
			t.Errorf("ToNumber of %d bytes from %x on answers %d, %v, not %v", len(b), b[0], n, err, c.want)
		}
	}
}

// times is floats in their plain form with their bytes, in hexadecimal.
func times() []struct {
	x float64
	b string
} {
	return []struct {
		x float64
		b string
	}{
		{0, "0000000000000000"}, {1, "3ff0000000000000"}, {-2, "c000000000000000"}, {258.5, "4070280000000000"},
		{math.SmallestNonzeroFloat64, "0000000000000001"}, {-math.SmallestNonzeroFloat64, "8000000000000001"},
		{math.MaxFloat64, "7fefffffffffffff"}, {-math.MaxFloat64, "ffefffffffffffff"},
		{math.Inf(1), "7ff0000000000000"}, {math.Inf(-1), "fff0000000000000"}, {math.Float64frombits(0x7FF8000000000001), "7ff8000000000001"},
		{math.Float64frombits(0x0102030405060708), "0102030405060708"},
	}
}

func TestFloat(t *testing.T) {
	for _, c := range times() {
		if b := fields.Float(c.x); hex.EncodeToString(b) != c.b {
			t.Errorf("Float(%v) answers %x, not %s", c.x, b, c.b)
		}
		b, _ := hex.DecodeString(c.b)
		if x, err := fields.ToFloat(b); err != nil || math.Float64bits(x) != math.Float64bits(c.x) {
			t.Errorf("ToFloat of %s answers %v, %v, not %v", c.b, x, err, c.x)
		}
	}
	// What isn't plain has the bytes of its plain form.
	if b := fields.Float(math.Copysign(0, -1)); !bytes.Equal(b, make([]byte, 8)) {
		t.Errorf("Float of minus zero answers %x", b)
	}
	for _, bits := range []uint64{0x7FF8000000000000, 0x7FF0000000000001, 0xFFF8000000000001, math.MaxUint64} {
		if b := fields.Float(math.Float64frombits(bits)); hex.EncodeToString(b) != "7ff8000000000001" {
			t.Errorf("Float of the NaN %x answers %x", bits, b)
		}
	}
}

func TestToFloatOfWrongBytes(t *testing.T) {
	for _, text := range []string{
		"", "00", "3ff0", "3ff00000000000", "3ff000000000000000", "000000000000000000", strings.Repeat("00", 16), strings.Repeat("3f", 70000),
		"8000000000000000", // minus zero
		"7ff8000000000000", "7ff0000000000001", "7ff8000000000002", "7fffffffffffffff", "7ff4000000000000",
		"fff8000000000001", "fff8000000000000", "fff0000000000001", "ffffffffffffffff",
	} {
		b, _ := hex.DecodeString(text)
		if x, err := fields.ToFloat(b); !is(err, api.ErrForm) || math.Float64bits(x) != 0 {
			t.Errorf("ToFloat of %d bytes, %x, answers %v, %v", len(b), b[:min(len(b), 16)], x, err)
		}
	}
	if x, err := fields.ToFloat(nil); !is(err, api.ErrForm) || x != 0 {
		t.Errorf("ToFloat of nil answers %v, %v", x, err)
	}
}

func TestFloatThereAndBack(t *testing.T) {
	roll := dice(5)
	for range 20000 {
		bits := uint64(roll(1<<31))<<33 ^ uint64(roll(1<<31))<<11 ^ uint64(roll(1<<31))
		if roll(4) == 0 {
			bits |= 0x7FF << 52 // NaNs and, seldom, infinities
		}
		x := math.Float64frombits(bits)
		b := fields.Float(x)
		back, err := fields.ToFloat(b)
		if len(b) != 8 || err != nil || math.Float64bits(back) != floats.Bits(x) {
			t.Fatalf("Float of the bits %x answers %x, and of these ToFloat %v, %v", bits, b, back, err)
		}
		raw := make([]byte, 8)
		for i := range raw {
			raw[i] = byte(bits >> (56 - 8*i))
		}
		if _, err := fields.ToFloat(raw); (err == nil) != bytes.Equal(raw, b) || err != nil && !errors.Is(err, api.ErrForm) {
			t.Fatalf("ToFloat of %x answers %v", raw, err)
		}
	}
}

func TestFlag(t *testing.T) {
	if b := fields.Flag(true); !bytes.Equal(b, []byte{1}) {
		t.Errorf("Flag of yes answers %x", b)
	}
	if b := fields.Flag(false); len(b) != 0 {
		t.Errorf("Flag of no answers %x", b)
	}
	for _, none := range [][]byte{nil, {}} {
		if yes, err := fields.ToFlag(none); yes || err != nil {
			t.Errorf("ToFlag of no bytes answers %v, %v", yes, err)
		}
	}
	for first := range 256 {
		yes, err := fields.ToFlag([]byte{byte(first)})
		if first == 1 && (!yes || err != nil) || first != 1 && (yes || !is(err, api.ErrForm)) {
			t.Errorf("ToFlag of %x answers %v, %v", first, yes, err)
		}
		for second := range 3 {
			if yes, err := fields.ToFlag([]byte{byte(first), byte(second)}); yes || !is(err, api.ErrForm) {
				t.Errorf("ToFlag of %x and %x answers %v, %v", first, second, yes, err)
			}
		}
	}
	if yes, err := fields.ToFlag(bytes.Repeat([]byte{1}, 70000)); yes || !is(err, api.ErrForm) {
		t.Errorf("ToFlag of many bytes answers %v, %v", yes, err)
	}
}

// TestArgumentsStay is of bytes that are handed in, and answers that are written to afterwards.
func TestArgumentsStay(t *testing.T) {
	for _, text := range []string{"\x01\x02", "\x00\x01", "\x3f\xf0\x00\x00\x00\x00\x00\x00", "\x80\x00\x00\x00\x00\x00\x00\x00", "\x01"} {
		b := []byte(text)
		fields.ToNumber(b)
		fields.ToFloat(b)
		fields.ToFlag(b)
		if string(b) != text {
			t.Errorf("bytes %x have become %x", text, b)
		}
	}
	for range 2 {
		number, _ := fields.Number(258)
		float, flag := fields.Float(1), fields.Flag(true)
		if hex.EncodeToString(number)+hex.EncodeToString(float)+hex.EncodeToString(flag) != "0102"+"3ff0000000000000"+"01" {
			t.Errorf("answers are %x, %x, %x", number, float, flag)
		}
		clear(number)
		clear(float)
		clear(flag)
	}
}
