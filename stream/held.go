// Package stream keeps the streams of a side: those it writes, and those it reads.
package stream

import (
	"slices"

	"sealstream/spans"
)

// held is the bytes of a stream from a place on: ahead of it none is kept, nor any of a stream that was given up. What came is known from the beginning on.
type held struct {
	at    uint64
	bytes []byte
	came  spans.Set
}

// end is behind the last byte that is held.
func (h *held) end() uint64 { return h.at + uint64(len(h.bytes)) }

// whole is how many bytes from the place on came without a hole.
func (h *held) whole() int {
	if len(h.came) == 0 || h.came[0].From > 0 {
		return 0
	}
	return int(h.came[0].To - h.at)
}

// drop lets the place go on by n bytes.
func (h *held) drop(n int) {
	h.at += uint64(n)
	h.bytes = slices.Clone(h.bytes[min(n, len(h.bytes)):]) // a piece of the old list would keep all of it
}

// missing is the part of a span that did not come.
func (h *held) missing(x spans.Span) spans.Set {
	var s spans.Set
	s.Add(x)
	for _, y := range h.came {
		s.Cut(y)
	}
	return s
}

// between is the bytes of a span, as they are held: no room behind them, which is others'.
func (h *held) between(x spans.Span) []byte {
	return h.bytes[x.From-h.at : x.To-h.at : x.To-h.at]
}
