package net

import (
	"bytes"
	"iter"
)

// Letter is bytes on their way.
type Letter struct {
	From, To int
	Data     []byte
}

// own is a letter whose bytes nobody else has. Copies of one in a net share theirs, which nobody writes to, so each is made so where it goes in and where it comes out.
func (l Letter) own() Letter {
	l.Data = bytes.Clone(l.Data)
	return l
}

// each is places and letters of a list, these with bytes of their own.
func each(list []Letter) iter.Seq2[int, Letter] {
	return func(yield func(int, Letter) bool) {
		for i, l := range list {
			if !yield(i, l.own()) {
				return
			}
		}
	}
}
