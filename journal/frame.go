package journal

import (
	"iter"
	"slices"

	"liaison/api"
	"liaison/check"
)

const (
	countBytes = 2
	sumBytes   = 4
)

// Frame is a row's frame.
func Frame(row []byte) ([]byte, error) {
	many := len(row)
	if !right(many) {
		return nil, api.ErrForm
	}
	count := []byte{byte(many >> 8), byte(many)}
	return slices.Concat(count, check.Seal(row)), nil
}

// right tells whether a row may have so many bytes.
func right(many int) bool {
	return many >= 1 && many <= api.MaxRow
}

// frameSize is how many bytes the frame of a row of so many has.
func frameSize(many int) int {
	return countBytes + many + sumBytes
}

// join is rows' frames, one behind the other.
func join(rows [][]byte) ([]byte, error) {
	var b []byte
	for _, row := range rows {
		frame, err := Frame(row)
		if err != nil {
			return nil, err
		}
		b = append(b, frame...)
	}
	return b, nil
}

// frames is the rows of the frames that bytes begin with, each one with the place behind its frame.
func frames(b []byte) iter.Seq2[[]byte, int] {
	return func(yield func(row []byte, behind int) bool) {
		behind := 0
		for {
			row, whole := first(b[behind:])
			if !whole {
				return
			}
			behind += frameSize(len(row))
			if !yield(row, behind) {
				return
			}
		}
	}
}

// first is the row of the frame that bytes begin with, and whether one is whole there.
func first(b []byte) ([]byte, bool) {
	if len(b) < countBytes {
		return nil, false
	}
	many := int(b[0])<<8 | int(b[1])
	if !right(many) || len(b) < frameSize(many) {
		return nil, false
	}
	row, err := check.Open(b[countBytes:frameSize(many)])
	return row, err == nil
}
