package facts_test

import (
	"encoding/binary"
	"math"
	"math/big"
	"strings"

	"liaison/api"
	"liaison/facts"
	"liaison/fields"
)

// The chapter's words, one by one, with its numbers written out: what the calls are held against.

// plainNaN is the bits of the plain form of all NaNs.
const plainNaN = 0x7FF8000000000001

// named is the chapter's table: which fields each kind names, by the kind's number; at 0 stands nothing.
var named = []string{
	"",
	"Act, Outcome, Depth, Expires, Parent",
	"Act, Reg, Node, Part, Protocol",
	"Act, Reg, State, How",
	"Act, Decision",
	"Act",
	"Part, Act, Protocol",
	"Part, Reg",
	"Part, State, How",
}

// tagged is the fields by the tags of their numbers; at 0 stands nothing.
var tagged = []string{"", "Kind", "Act", "Act", "Reg", "Node", "Part", "Protocol", "Outcome", "Depth", "Parent", "State", "How", "Decision"}

// least and most is the range of each tag's number in a fact that names it; of How there is more to say.
var (
	least = []int{0, 1, 0, 0, 0, 0, 0, 1, 1, 0, 0, 1, 0, 1}
	most  = []int{0, 8, 3, 999999, 5, 3, 7, 2, 2, 3, 8, 14, 8, 2}
)

// names tells whether a kind names a field.
func names(kind int, field string) bool {
	return namedFields[kind][field]
}

// namedFields is the table's fields by the kind, as sets, made once: to split texts is dear.
var namedFields = sets(named)

func sets(texts []string) []map[string]bool {
	var list []map[string]bool
	for _, text := range texts {
		set := map[string]bool{"Kind": true}
		for _, field := range strings.Split(text, ", ") {
			set[field] = true
		}
		list = append(list, set)
	}
	return list
}

// numbersOf is the numbers of a fact, by their tags; at 0 stands nothing.
func numbersOf(f facts.Fact) [14]int {
	return [14]int{0, f.Kind, f.Act.Node, f.Act.Seq, f.Reg, f.Node, f.Part, f.Protocol, f.Outcome, f.Depth, f.Parent, f.State, f.How, f.Decision}
}

// factOf is the fact of numbers by their tags, and of Expires.
func factOf(n [14]int, expires float64) facts.Fact {
	return facts.Fact{
		Kind: n[1], Act: api.Act{Node: n[2], Seq: n[3]}, Reg: n[4], Node: n[5], Part: n[6], Protocol: n[7],
		Outcome: n[8], Depth: n[9], Parent: n[10], State: n[11], How: n[12], Decision: n[13], Expires: expires,
	}
}

// isPlainTime tells whether a float is a time in its plain form.
func isPlainTime(x float64) bool {
	return math.Float64bits(x) == 0 || x > 0
}

// right tells whether a fact is right.
func right(f facts.Fact) bool {
	if f.Kind < 1 || f.Kind > 8 {
		return false
	}
	numbers := numbersOf(f)
	for tag := 1; tag <= 13; tag++ {
		n := numbers[tag]
		if names(f.Kind, tagged[tag]) {
			if n < least[tag] || n > most[tag] {
				return false
			}
		} else if n != 0 {
			return false
		}
	}
	if names(f.Kind, "How") {
		ways := map[int]bool{1: true, 4: true, 5: true, 6: true, 7: true, 8: true}
		if f.State == 14 && !ways[f.How] || f.State != 14 && f.How != 0 {
			return false
		}
	}
	if names(f.Kind, "Expires") {
		return isPlainTime(f.Expires)
	}
	return math.Float64bits(f.Expires) == 0
}

// written is a fact's bytes, and the error.
func written(f facts.Fact) (string, error) {
	if !right(f) {
		return "", api.ErrForm
	}
	b := ""
	for tag, n := range numbersOf(f) {
		if digits := big.NewInt(int64(n)).Bytes(); n != 0 {
			b += string([]byte{byte(tag), 0, byte(len(digits))}) + string(digits)
		}
	}
	if f.Kind == 1 {
		b += "\x0e\x00\x08" + string(binary.BigEndian.AppendUint64(nil, math.Float64bits(f.Expires)))
	}
	return b, nil
}

// read is bytes' fact, and the error.
func read(b []byte) (facts.Fact, error) {
	row, err := fields.Split(b)
	if err != nil {
		return facts.Fact{}, err
	}
	var n [14]int
	expires, there := 0.0, false
	for _, f := range row {
		if f.Tag > 14 {
			return facts.Fact{}, api.ErrForm
		}
		if f.Tag == 14 {
			if len(f.Data) != 8 {
				return facts.Fact{}, api.ErrForm
			}
			expires, there = math.Float64frombits(binary.BigEndian.Uint64(f.Data)), true
			continue
		}
		digits := new(big.Int).SetBytes(f.Data)
		if len(f.Data) == 0 || f.Data[0] == 0 || !digits.IsInt64() {
			return facts.Fact{}, api.ErrForm
		}
		n[f.Tag] = int(digits.Int64())
	}
	f := factOf(n, expires)
	if there != (f.Kind == 1) || !right(f) {
		return facts.Fact{}, api.ErrForm
	}
	return f, nil
}

// alike tells whether facts are the same, Expires by its very bits.
func alike(a, b facts.Fact) bool {
	return numbersOf(a) == numbersOf(b) && math.Float64bits(a.Expires) == math.Float64bits(b.Expires)
}

// plain is a float in its plain form.
func plain(x float64) float64 {
	if x == 0 {
		return 0
	}
	if x != x {
		return math.Float64frombits(plainNaN)
	}
	return x
}
