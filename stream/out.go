package stream

import (
	"sealstream/api"
	"sealstream/frame"
	"sealstream/spans"
)

// Out is a stream that this side writes. Its bytes are held until they came, and all ahead of them, or it is given up. It ends where they end.
type Out struct {
	held
	sent uint64 // the end of its bytes that were sent
	says Word   // what is to be told of it
	told Word   // what of that came
	code uint64 // with which it was given up
}

// Word is what is told of a stream beside its bytes: that it ends, or that it was given up.
type Word struct {
	End, Given bool
}

// but is what is told by w and not by x.
func (w Word) but(x Word) Word { return Word{w.End && !x.End, w.Given && !x.Given} }

// Piece is what one frame carries of a stream: some of its bytes, a word, or both.
type Piece struct {
	spans.Span
	Word
}

// Due is what of a stream is to be sent.
type Due struct {
	spans.Set
	Word
}

// Leave takes a piece out: it is on its way.
func (d *Due) Leave(p Piece) {
	d.Cut(p.Span)
	d.Word = d.but(p.Word)
}

// Write takes as many of the bytes as there is room for.
func (s *Out) Write(b []byte, window int) int {
	n := min(len(b), window-len(s.bytes), api.MaxStream-int(s.end()))
	s.bytes = append(s.bytes, b[:n]...)
	return n
}

// Finish ends the stream.
func (s *Out) Finish() { s.says.End = true }

// GiveUp lets its bytes go; its end, if it had one, is told no more.
func (s *Out) GiveUp(code uint64) {
	s.says, s.code = Word{Given: true}, code
	s.bytes = nil
}

// GivenUp tells whether it was given up.
func (s *Out) GivenUp() bool { return s.says.Given }

// Done tells whether nothing more may be written.
func (s *Out) Done() bool { return s.says != Word{} }

// Came is how many bytes came from the beginning on.
func (s *Out) Came() int { return int(s.at) }

// untold is what is to be told, and did not come.
func (s *Out) untold() Word { return s.says.but(s.told) }

// Missing is all that did not come, be it on its way or not.
func (s *Out) Missing() Due {
	return Due{s.missing(spans.Span{From: s.at, To: s.end()}), s.untold()}
}

// Next is the first piece that is due, as far as a frame with that much room carries it; false: there is none, or no room.
func (s *Out) Next(d Due, room int) (Piece, bool) {
	if s.GivenUp() {
		return Piece{Word: d.Word}, d.Given && frame.ResetSize(s.sent, s.code) <= room
	}
	x := spans.Span{From: s.end(), To: s.end()}
	if len(d.Set) > 0 {
		x = d.Set[0]
	}
	most := frame.MostData(x.From, room)
	if most < 0 {
		return Piece{}, false
	}
	x.To = min(x.To, x.From+uint64(most))
	// The last bytes say that they are, even if the end came or is on its way without them.
	p := Piece{x, Word{End: s.says.End && x.To == s.end()}}
	return p, x.From < x.To || p.End && d.End
}

// Send is a piece that is sent now, as a frame of the stream k.
func (s *Out) Send(k int, p Piece) api.Frame {
	if p.Given {
		return api.Frame{Kind: api.Reset, Stream: k, Offset: s.sent, Code: s.code}
	}
	s.sent = max(s.sent, p.To)
	return api.Frame{Kind: api.Data, Stream: k, Offset: p.From, Data: string(s.between(p.Span)), Fin: p.End}
}

// Arrive: an Ack named a packet that carried this piece.
func (s *Out) Arrive(p Piece) {
	s.came.Add(p.Span)
	s.drop(s.whole())
	s.told = Word{s.told.End || p.End, s.told.Given || p.Given}
}

// Settled tells whether an Ack of a packet with this piece would say nothing new: all of it came by others, or matters no more.
func (s *Out) Settled(p Piece) bool {
	u := s.untold()
	return s.came.Holds(p.Span) && u.but(p.Word) == u
}
