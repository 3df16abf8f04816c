// Package frame writes frames as bytes and reads them (P3 to P5).
package frame

import "sealstream/api"

// The first bytes of frames.
const (
	padding byte = iota
	ping
	ack
	_
	reset
)

const (
	data byte = iota + 0x08
	lastData
)

const closing byte = 0x1c

// shape is how frames with one first byte are written and read.
type shape struct {
	kind  int
	fin   bool
	first byte
	parts []part
}

// part is how one thing behind a frame's first byte is written and read.
type part struct {
	write func(b []byte, f api.Frame) []byte
	read  func(r *reader, f *api.Frame)
}

// shapes is made anew by each call: a table of functions does not stand at package level.
func shapes() []shape {
	stream, ranges, bytes := streamPart(), rangesPart(), bytesPart()
	offset := numberPart(func(f *api.Frame) *uint64 { return &f.Offset })
	code := numberPart(func(f *api.Frame) *uint64 { return &f.Code })
	return []shape{
		{kind: api.Padding, first: padding},
		{kind: api.Ping, first: ping},
		{kind: api.Ack, first: ack, parts: []part{ranges}},
		{kind: api.Reset, first: reset, parts: []part{stream, code, offset}},
		{kind: api.Data, first: data, parts: []part{stream, offset, bytes}},
		{kind: api.Data, fin: true, first: lastData, parts: []part{stream, offset, bytes}},
		{kind: api.Close, first: closing, parts: []part{code}},
	}
}

// shapeOf finds how a frame is written; false: its kind is none.
func shapeOf(table []shape, f api.Frame) (shape, bool) {
	// Fin is no field of the other kinds, so there it must not keep a shape from being found.
	fin := f.Fin && f.Kind == api.Data
	for _, s := range table {
		if s.kind == f.Kind && s.fin == fin {
			return s, true
		}
	}
	return shape{}, false
}

// shapeAt finds how a frame with that first byte is read; false: there is none.
func shapeAt(table []shape, first byte) (shape, bool) {
	for _, s := range table {
		if s.first == first {
			return s, true
		}
	}
	return shape{}, false
}

func numberPart(field func(f *api.Frame) *uint64) part {
	return part{
		write: func(b []byte, f api.Frame) []byte { return appendNumber(b, *field(&f)) },
		read:  func(r *reader, f *api.Frame) { *field(f) = r.number() },
	}
}

func streamPart() part {
	return part{
		write: func(b []byte, f api.Frame) []byte { return appendNumber(b, uint64(f.Stream)) },
		read:  func(r *reader, f *api.Frame) { f.Stream = r.stream() },
	}
}

func bytesPart() part {
	return part{
		write: func(b []byte, f api.Frame) []byte {
			return append(appendNumber(b, uint64(len(f.Data))), f.Data...)
		},
		read: func(r *reader, f *api.Frame) { f.Data = string(r.take(r.number())) },
	}
}

func rangesPart() part {
	return part{
		write: func(b []byte, f api.Frame) []byte { return appendRanges(b, f.Ranges) },
		read:  func(r *reader, f *api.Frame) { f.Ranges = r.ranges() },
	}
}
