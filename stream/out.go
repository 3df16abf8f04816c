package stream

import (
	"sealstream/api"
	"sealstream/frame"
	"sealstream/spans"
)

// Out is a stream that this side writes. Its bytes are held until they came, and all ahead of them. It ends where they end.
type Out struct {
	held
	finished bool
	endCame  bool
}

// Piece is what one frame carries of a stream: some of its bytes, its end, or both.
type Piece struct {
	spans.Span
	End bool
}

// Due is what of a stream is to be sent: bytes, and whether its end is.
type Due struct {
	spans.Set
	End bool
}

// Leave takes a piece out: it is on its way.
func (d *Due) Leave(p Piece) {
	d.Cut(p.Span)
	d.End = d.End && !p.End
}

// Write takes as many of the bytes as there is room for.
func (s *Out) Write(b []byte, window int) int {
	n := min(len(b), window-len(s.bytes), api.MaxStream-int(s.end()))
	s.bytes = append(s.bytes, b[:n]...)
	return n
}

// Finish ends the stream.
func (s *Out) Finish() { s.finished = true }

// Done tells whether nothing more may be written.
func (s *Out) Done() bool { return s.finished }

// Came is how many bytes came from the beginning on.
func (s *Out) Came() int { return int(s.at) }

// Missing is all that did not come, be it on its way or not.
func (s *Out) Missing() Due {
	return Due{
		Set: s.missing(spans.Span{From: s.at, To: s.end()}),
		End: s.finished && !s.endCame,
	}
}

// Next is the first piece that is due, as far as a frame with that much room carries it; false: there is none, or no room.
func (s *Out) Next(d Due, room int) (Piece, bool) {
	x := spans.Span{From: s.end(), To: s.end()}
	if len(d.Set) > 0 {
		x = d.Set[0]
	}
	most := frame.MostData(x.From, room)
	if most < 0 {
		return Piece{}, false
	}
	x.To = min(x.To, x.From+uint64(most))
	// The last bytes say that they are, even if the end came or is on its way without them.
	p := Piece{x, s.finished && x.To == s.end()}
	return p, x.From < x.To || p.End && d.End
}

// Frame is a piece that is held as a frame of the stream k.
func (s *Out) Frame(k int, p Piece) api.Frame {
	return api.Frame{Kind: api.Data, Stream: k, Offset: p.From, Data: string(s.between(p.Span)), Fin: p.End}
}

// Arrive: an Ack named a packet that carried this piece.
func (s *Out) Arrive(p Piece) {
	s.came.Add(p.Span)
	s.drop(s.whole())
	s.endCame = s.endCame || p.End
}

// Settled tells whether all of a piece came, by whatever packet.
func (s *Out) Settled(p Piece) bool {
	return s.came.Holds(p.Span) && (s.endCame || !p.End)
}
