package letter_test

import (
	"math/big"

	"liaison/api"
	"liaison/fields"
)

// The chapter's words, one by one, with its numbers written out: what the calls are held against.

// right tells whether a message is right.
func right(m api.Message) bool {
	if m.Kind < 1 || m.Kind > 19 || m.From < 0 || m.From > 3 || m.To < 0 || m.To > 3 {
		return false
	}
	if m.Act.Node < 0 || m.Act.Node > 3 || m.Act.Seq < 0 || m.Act.Seq > 999999 {
		return false
	}
	if m.Reg < 0 || m.Reg > 5 || m.Part < 0 || m.Part > 7 || m.Kind == 17 && m.Reg != 0 {
		return false
	}
	protocols := map[int][]int{17: {1, 2}, 18: {1, 2}}
	codes := map[int][]int{19: {1, 2, 3, 4, 5}, 16: {1, 2, 3, 4, 5, 6, 7, 8, 9, 10, 11, 12, 13, 14}}
	return among(m.Protocol, protocols[m.Kind]) && among(m.Code, codes[m.Kind])
}

// among tells whether a number is one of a list; of no list, whether it is 0.
func among(n int, list []int) bool {
	for _, one := range list {
		if n == one {
			return true
		}
	}
	return list == nil && n == 0
}

// numbersOf is the numbers of a message, by their tags; at 0 stands nothing.
func numbersOf(m api.Message) [10]int {
	return [10]int{0, m.Kind, m.From, m.To, m.Act.Node, m.Act.Seq, m.Reg, m.Part, m.Protocol, m.Code}
}

// messageOf is the message of numbers by their tags.
func messageOf(n [10]int) api.Message {
	return api.Message{
		Kind: n[1], From: n[2], To: n[3], Act: api.Act{Node: n[4], Seq: n[5]},
		Reg: n[6], Part: n[7], Protocol: n[8], Code: n[9],
	}
}

// encoded is a message's bytes, and the error.
func encoded(m api.Message) (string, error) {
	if !right(m) {
		return "", api.ErrForm
	}
	b := ""
	for tag, n := range numbersOf(m) {
		if digits := big.NewInt(int64(n)).Bytes(); n != 0 {
			b += string([]byte{byte(tag), 0, byte(len(digits))}) + string(digits)
		}
	}
	return b, nil
}

// decoded is bytes' message, and the error.
func decoded(b []byte) (api.Message, error) {
	if len(b) > 1000 {
		return api.Message{}, api.ErrLong
	}
	row, err := fields.Split(b)
	if err != nil {
		return api.Message{}, err
	}
	var numbers [10]int
	for _, f := range row {
		if f.Tag > 9 || len(f.Data) == 0 || f.Data[0] == 0 {
			return api.Message{}, api.ErrForm
		}
		n := new(big.Int).SetBytes(f.Data)
		if !n.IsInt64() {
			return api.Message{}, api.ErrForm
		}
		numbers[f.Tag] = int(n.Int64())
	}
	if m := messageOf(numbers); right(m) {
		return m, nil
	}
	return api.Message{}, api.ErrForm
}
