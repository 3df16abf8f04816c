package side

import (
	"sealstream/api"
	"sealstream/frame"
	"sealstream/seal"
	"sealstream/stream"
)

// Packets is what is sent now (P10, P11).
func (s *Side) Packets() [][]byte {
	if s.closed() {
		return s.part()
	}
	l := s.acks()
	for k := range api.MaxStreams {
		l = append(l, s.pieces(k)...)
	}
	return l
}

// room is for a packet's frames.
func (s *Side) room() int { return s.config.MTU - api.Overhead }

func (s *Side) seal(number uint64, frames []byte) []byte {
	return seal.Seal(s.key, s.first, number, frames)
}

// bytesOf is a frame that the program made, which Encode does not refuse.
func bytesOf(f api.Frame) []byte {
	b, _ := frame.Encode([]api.Frame{f})
	return b
}

// acks is packets of Acks, and nothing else: one with bytes may be refused (ErrBusy), and an Ack in it would be lost.
func (s *Side) acks() [][]byte {
	if !s.owes {
		return nil
	}
	s.owes = false
	var l [][]byte
	for rest := s.came.ranges(); len(rest) > 0; {
		n := frame.MostRanges(rest, s.room())
		ack := api.Frame{Kind: api.Ack, Ranges: rest[:n:n]}
		l = append(l, s.seal(s.flight.Number(), bytesOf(ack)))
		rest = rest[n:]
	}
	return l
}

// pieces is packets of what is due of a stream. Each is of one stream: if it is refused (ErrBusy), no other stream waits for it.
func (s *Side) pieces(k int) [][]byte {
	var l [][]byte
	due := s.due(k)
	for !s.flight.Full() {
		frames, pieces := s.load(k, &due)
		if len(pieces) == 0 {
			break
		}
		l = append(l, s.seal(s.flight.Depart(k, pieces), frames))
	}
	return l
}

// due is what did not come of a stream, and is not on its way.
func (s *Side) due(k int) stream.Due {
	d := s.out[k].Missing()
	for p := range s.flight.Flying(k) {
		d.Leave(p)
	}
	return d
}

// load is as much of what is due as a packet carries.
func (s *Side) load(k int, due *stream.Due) (frames []byte, pieces []stream.Piece) {
	o := &s.out[k]
	for {
		p, more := o.Next(*due, s.room()-len(frames))
		if !more {
			return frames, pieces
		}
		due.Leave(p)
		frames = append(frames, bytesOf(o.Send(k, p))...)
		pieces = append(pieces, p)
	}
}
