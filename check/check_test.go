package check_test

import (
	"bytes"
	"hash/crc32"
	"math/bits"
	"strings"
	"testing"

	"liaison/api"
	"liaison/check"
)

// bitwise is the sum as the chapter's words tell it, bit by bit.
func bitwise(b []byte) uint32 {
	register := uint32(0xFFFFFFFF)
	for _, one := range b {
		register = byBits(register, one)
	}
	return ^register
}

// byBits is a register behind one byte more, bit by bit from the low one on.
func byBits(register uint32, b byte) uint32 {
	for i := range 8 {
		low := (register ^ uint32(b>>i)) & 1
		register >>= 1
		if low == 1 {
			register ^= 0xEDB88320
		}
	}
	return register
}

// thrown makes what answers one number after the other, the same ones each time.
func thrown(seed uint64) func() uint64 {
	return func() uint64 {
		seed = seed*6364136223846793005 + 1442695040888963407
		return seed>>32 ^ seed<<16
	}
}

// thrownBytes is so many bytes of all kinds.
func thrownBytes(many int) []byte {
	next := thrown(uint64(many))
	b := make([]byte, many)
	for i := range b {
		b[i] = byte(next())
	}
	return b
}

// samples is bytes of several kinds and lengths.
func samples() [][]byte {
	list := [][]byte{nil, {}, []byte("123456789"), {0}, {0, 0, 0, 0}, {0xFF}, bytes.Repeat([]byte{0xFF}, 4), bytes.Repeat([]byte{0}, 300), bytes.Repeat([]byte{0xFF}, 300)}
	for many := range 70 {
		list = append(list, thrownBytes(many))
	}
	return append(list, thrownBytes(api.MaxRow), thrownBytes(api.MaxBytes), thrownBytes(api.MaxTape))
}

// is tells whether an error is the very one that is wanted, nil too.
func is(err, want error) bool {
	if err == nil || want == nil {
		return err == nil && want == nil
	}
	return err == want
}

// opens fails if sealed bytes aren't opened to those that are wanted.
func opens(t *testing.T, sealed, want []byte) {
	t.Helper()
	if b, err := check.Open(sealed); err != nil || !bytes.Equal(b, want) {
		t.Errorf("Open(%x) answers %x, %v, not %x", sealed, b, err, want)
	}
}

// refused fails if bytes are opened, or anything stands beside the error.
func refused(t *testing.T, what string, b []byte, want error) {
	t.Helper()
	if got, err := check.Open(b); !is(err, want) || got != nil {
		t.Fatalf("Open of %s (%x) answers %x, %v, not %v", what, b, got, err, want)
	}
}

func TestSumOfTexts(t *testing.T) {
	for _, c := range []struct {
		text string
		want uint32
	}{
		{"", 0},
		{"\x00", 0xD202EF8D},
		{"\xff", 0xFF000000},
		{"a", 0xE8B7BE43},
		{"abc", 0x352441C2},
		{"123456789", 0xCBF43926},
		{"The quick brown fox jumps over the lazy dog", 0x414FA339},
		{"\x00\x00\x00\x00", 0x2144DF1C},
		{"\xff\xff\xff\xff", 0xFFFFFFFF},
		{strings.Repeat("\x00", 32), 0x190A55AD},
		{strings.Repeat("\xff", 32), 0xFF6CAB0B},
	} {
		if got := check.Sum([]byte(c.text)); got != c.want {
			t.Errorf("Sum(%q) answers %08X, not %08X", c.text, got, c.want)
		}
	}
}

func TestSum(t *testing.T) {
	for _, b := range samples() {
		got := check.Sum(b)
		if want := bitwise(b); got != want {
			t.Errorf("Sum(%x) answers %08X, not %08X", b, got, want)
		}
		if want := crc32.ChecksumIEEE(b); got != want {
			t.Errorf("Sum(%x) answers %08X, the library %08X", b, got, want)
		}
	}
}

func TestSumOfParts(t *testing.T) {
	if got := check.Sum(); got != 0 {
		t.Errorf("Sum of no parts answers %08X", got)
	}
	if got := check.Sum(nil, []byte{}, nil); got != 0 {
		t.Errorf("Sum of empty parts answers %08X", got)
	}
	b := thrownBytes(40)
	want := bitwise(b)
	var single [][]byte
	for i := range b {
		single = append(single, b[i:i+1])
	}
	if got := check.Sum(single...); got != want {
		t.Errorf("Sum of parts of one byte answers %08X, not %08X", got, want)
	}
	for i := range len(b) + 1 {
		for j := i; j <= len(b); j++ {
			if got := check.Sum(b[:i], b[i:j], nil, b[j:], []byte{}); got != want {
				t.Fatalf("Sum of parts up to %d and %d answers %08X, not %08X", i, j, got, want)
			}
		}
	}
	if check.Sum([]byte("12"), []byte("3")) == check.Sum([]byte("3"), []byte("12")) {
		t.Error("the parts' order is nothing to Sum")
	}
}

func TestNext(t *testing.T) {
	next := thrown(7)
	sums := []uint32{0, 1, 0xFFFFFFFF, 0xFFFFFFFE, 0x80000000, 0x7FFFFFFF, 0xCBF43926, 0xEDB88320}
	for i := range 32 {
		sums = append(sums, 1<<i, ^uint32(1<<i), uint32(next()))
	}
	for _, sum := range sums {
		for b := range 256 {
			got, want := check.Next(sum, byte(b)), ^byBits(^sum, byte(b))
			if got != want {
				t.Fatalf("Next(%08X, %02X) answers %08X, not %08X", sum, b, got, want)
			}
		}
	}
}

func TestNextOfSum(t *testing.T) {
	sum := check.Sum()
	b := thrownBytes(api.MaxBytes)
	for i := range b {
		sum = check.Next(sum, b[i])
		if want := check.Sum(b[:i+1]); sum != want {
			t.Fatalf("Next up to %d answers %08X, not %08X", i, sum, want)
		}
	}
}

func TestSeal(t *testing.T) {
	for _, c := range []struct{ b, want string }{
		{"", "\x00\x00\x00\x00"},
		{"a", "a\xe8\xb7\xbe\x43"},
		{"abc", "abc\x35\x24\x41\xc2"},
		{"123456789", "123456789\xcb\xf4\x39\x26"},
		{"\x00", "\x00\xd2\x02\xef\x8d"},
		{"\xff", "\xff\xff\x00\x00\x00"},
		{"\xff\xff\xff\xff", "\xff\xff\xff\xff\xff\xff\xff\xff"},
	} {
		if got := check.Seal([]byte(c.b)); string(got) != c.want {
			t.Errorf("Seal(%q) answers %q, not %q", c.b, got, c.want)
		}
		opens(t, []byte(c.want), []byte(c.b))
	}
	if got := check.Seal(nil); string(got) != "\x00\x00\x00\x00" {
		t.Errorf("Seal(nil) answers %x", got)
	}
}

func TestSealedIsOpened(t *testing.T) {
	for _, b := range samples() {
		sealed := check.Seal(b)
		if sum := bitwise(b); !bytes.Equal(sealed, append(bytes.Clone(b), byte(sum>>24), byte(sum>>16), byte(sum>>8), byte(sum))) {
			t.Errorf("Seal(%x) answers %x", b, sealed)
		}
		opens(t, sealed, b)
		twice := check.Seal(sealed)
		opens(t, twice, sealed)
	}
}

func TestOpenOfTooFew(t *testing.T) {
	refused(t, "nil", nil, api.ErrShort)
	for _, text := range []string{"", "\x00", "\x00\x00", "\x00\x00\x00", "\xff\xff\xff", "abc"} {
		refused(t, "too few", []byte(text), api.ErrShort)
	}
	opens(t, []byte{0, 0, 0, 0}, nil)
}

func TestOpenOfWrongSums(t *testing.T) {
	for _, text := range []string{
		"\x00\x00\x00\x01", "\x01\x00\x00\x00", "\xff\xff\xff\xff", "abcd",
		"a\x43\xbe\xb7\xe8",                // the low byte first
		"a\x17\x48\x41\xbc",                // not turned over
		"\xe8\xb7\xbe\x43a",                // the sum ahead
		"a\xe8\xb7\xbe\x43\x00",            // one byte more
		"\x00a\xe8\xb7\xbe\x43",            // one byte more ahead
		"a\xe8\xb7\xbe",                    // one byte less
		"123456789\x34\x0b\xc6\xd9",        // not turned over
		"123456789\xe3\x06\x92\x83",        // by another polynomial
		"123456789\xfc\x89\x19\x18",        // bits aren't reflected
		"123456789\xd2\x02\xd2\x77",        // the register begins with all bits 0
		"123456789\x2d\xfd\x2d\x88",        // likewise, and isn't turned over
		"123456789\x26\x39\xf4\xcb",        // the low byte first
		"12345678\xcb\xf4\x39\x26",         // a byte is gone
		"213456789\xcb\xf4\x39\x26",        // bytes are turned
		"123456789\xcb\xf4\x39\x26\xcb",    // one byte more
		"123456789 \xcb\xf4\x39\x26",       // one byte more ahead of the sum
		"\x00\x00\x00\x00\x00\x00\x00\x00", // sealed with nothing ahead, and four bytes more
	} {
		refused(t, "a wrong sum", []byte(text), api.ErrCheck)
	}
}

func TestOpenOfAllSums(t *testing.T) {
	for _, b := range [][]byte{nil, []byte("a"), []byte("123456789")} {
		sealed := check.Seal(b)
		last := sealed[len(b):]
		next := thrown(11)
		for range 10000 {
			sum := uint32(next())
			if sum == bitwise(b) {
				continue
			}
			copy(last, []byte{byte(sum >> 24), byte(sum >> 16), byte(sum >> 8), byte(sum)})
			refused(t, "another sum", sealed, api.ErrCheck)
		}
	}
}

// TestOneByteChanged is P4.2: no sealed bytes are opened, if one byte of all is another one.
func TestOneByteChanged(t *testing.T) {
	for _, many := range []int{0, 1, 2, 3, 4, 5, 9, 31, 64, api.MaxRow} {
		sealed := check.Seal(thrownBytes(many))
		for i := range sealed {
			for change := 1; change < 256; change++ {
				sealed[i] ^= byte(change)
				refused(t, "one byte changed", sealed, api.ErrCheck)
				sealed[i] ^= byte(change)
			}
		}
		opens(t, sealed, sealed[:many])
	}
}

// turn turns the bits of a pattern over, from a place on (in a byte from the low one on).
func turn(b []byte, from int, pattern uint32) {
	for i := range 32 {
		if pattern>>i&1 == 1 {
			b[(from+i)/8] ^= 1 << ((from + i) % 8)
		}
	}
}

// TestBitsChanged is P4.2: no sealed bytes are opened, if up to 32 bits beside one another ahead of the sum are changed.
func TestBitsChanged(t *testing.T) {
	next := thrown(13)
	for _, many := range []int{1, 2, 3, 4, 5, 8, 13, 64, api.MaxRow} {
		sealed := check.Seal(thrownBytes(many))
		for from := range 8 * many {
			for width := 1; width <= min(32, 8*many-from); width++ {
				ends := uint32(1) | 1<<(width-1)
				within := uint32(1)<<width - 1
				for _, pattern := range []uint32{ends, within, uint32(next())&within | ends, uint32(next())&within | ends} {
					turn(sealed, from, pattern)
					refused(t, "changed bits", sealed, api.ErrCheck)
					turn(sealed, from, pattern)
				}
			}
		}
		opens(t, sealed, sealed[:many])
	}
}

func TestAllBitsChangedOfTwoBytes(t *testing.T) {
	b := []byte{0x5A, 0x00, 0xFF, 0x31}
	sealed := check.Seal(b)
	for from := range 8*len(b) - 15 {
		for pattern := uint32(1); pattern < 1<<16; pattern++ {
			turn(sealed, from, pattern)
			refused(t, "changed bits", sealed, api.ErrCheck)
			turn(sealed, from, pattern)
		}
	}
}

// TestBitsTellOfEachOther shows P4.2 of all patterns at once: the sum's change is that of each bit, one laid over the other; where no 32 bits' changes lie over one another to nothing, no pattern of them leaves the sum as it is.
func TestBitsTellOfEachOther(t *testing.T) {
	b := thrownBytes(api.MaxRow)
	whole := check.Sum(b)
	var changes []uint32
	for i := range 8 * len(b) {
		turn(b, i, 1)
		changes = append(changes, whole^check.Sum(b))
		turn(b, i, 1)
	}
	for from := range len(changes) - 31 {
		if many := free(changes[from : from+32]); many != 32 {
			t.Fatalf("of the 32 bits from %d on only %d tell of each other", from, many)
		}
	}
	next := thrown(17)
	for range 1000 {
		from, pattern := int(next()%uint64(len(changes)-31)), uint32(next())
		want := whole
		for i, change := range changes[from : from+32] {
			want ^= change * (pattern >> i & 1)
		}
		turn(b, from, pattern)
		if got := check.Sum(b); got != want {
			t.Fatalf("the bits %08X from %d on: Sum answers %08X, not %08X", pattern, from, got, want)
		}
		turn(b, from, pattern)
	}
}

// free is how many of words can't be made of others of them, one laid over the other.
func free(words []uint32) int {
	var byTop [33]uint32
	many := 0
	for _, x := range words {
		for x != 0 && byTop[bits.Len32(x)] != 0 {
			x ^= byTop[bits.Len32(x)]
		}
		if x != 0 {
			byTop[bits.Len32(x)] = x
			many++
		}
	}
	return many
}

func TestNothingHandedInIsChanged(t *testing.T) {
	for _, b := range samples() {
		kept := bytes.Clone(b)
		check.Sum(b, b)
		sealed := check.Seal(b)
		if !bytes.Equal(b, kept) {
			t.Fatalf("Sum or Seal changed %x to %x", kept, b)
		}
		whole := bytes.Clone(sealed)
		check.Open(sealed)
		sealed[len(sealed)-1] ^= 1
		check.Open(sealed)
		sealed[len(sealed)-1] ^= 1
		if !bytes.Equal(sealed, whole) {
			t.Fatalf("Open changed %x to %x", whole, sealed)
		}
	}
}

func TestSealStaysOutOfRoomBehind(t *testing.T) {
	b := []byte("abcdefghij")
	first := check.Seal(b[:3])
	second := check.Seal(b[:3])
	if string(b) != "abcdefghij" {
		t.Errorf("Seal wrote behind what it was handed: %q", b)
	}
	first[0], b[1] = 'x', 'y'
	if string(second) != "abc\x35\x24\x41\xc2" || string(first[:3]) != "xbc" {
		t.Errorf("what Seal answers is shared: %q, %q", first, second)
	}
}

func TestOpenAnswersTheCallersOwn(t *testing.T) {
	sealed := check.Seal([]byte("abc"))
	whole := bytes.Clone(sealed)
	b, err := check.Open(sealed)
	if err != nil {
		t.Fatal(err)
	}
	_ = append(b, 'x')
	b[0] = 'z'
	if !bytes.Equal(sealed, whole) {
		t.Errorf("what Open answers is the argument's: %q", sealed)
	}
	sealed[1] = 'w'
	if string(b) != "zbc" {
		t.Errorf("what Open answers shows a later change: %q", b)
	}
	empty, err := check.Open([]byte{0, 0, 0, 0, 'k'}[:4])
	if err != nil || len(append(empty, 'x')) != 1 {
		t.Errorf("Open of nothing answers %q, %v", empty, err)
	}
}
