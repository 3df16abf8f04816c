package stream

import (
	"sealstream/api"
	"sealstream/spans"
)

// In is a stream that the other side writes. Its bytes are held until they are read.
type In struct {
	held
	high  uint64 // the highest end of a frame that came
	last  uint64 // where it ends; counts if ended
	code  uint64 // counts if given
	ended bool
	given bool
	over  bool // Read has said that it is finished
}

func endOf(f api.Frame) uint64 { return f.Offset + uint64(len(f.Data)) }

// Busy tells whether there is no room for a Data frame (P12).
func (s *In) Busy(f api.Frame, window int) bool {
	return !s.given && endOf(f) > s.at+uint64(window)
}

// Data takes a Data frame that there is room for (P13).
func (s *In) Data(f api.Frame) error {
	end := endOf(f)
	if s.ended && end > s.last || f.Fin && s.moves(end) {
		return api.ErrFinal
	}
	s.high = max(s.high, end)
	if f.Fin {
		s.ended, s.last = true, end
	}
	if !s.given {
		s.put(f)
	}
	return nil
}

// moves tells whether the stream cannot end there, by what came.
func (s *In) moves(end uint64) bool {
	return s.ended && end != s.last || end < s.high
}

// put keeps a frame's bytes, but not those of places whose bytes came or were read already.
func (s *In) put(f api.Frame) {
	all := spans.Span{From: f.Offset, To: endOf(f)}
	for _, x := range s.missing(all) {
		for s.end() < x.To {
			s.bytes = append(s.bytes, 0)
		}
		copy(s.between(x), f.Data[x.From-f.Offset:])
	}
	s.came.Add(all)
}

// Reset takes a Reset frame (P18).
func (s *In) Reset(f api.Frame) error {
	if s.moves(f.Offset) {
		return api.ErrFinal
	}
	s.ended, s.last = true, f.Offset
	if !s.given {
		s.given, s.code = true, f.Code
		s.held = held{at: s.at} // nobody reads its bytes any more
	}
	return nil
}

// Read is the next bytes, the state behind them, and the code with which the stream was given up (P15).
func (s *In) Read(most int) ([]byte, int, uint64) {
	if s.given && !s.over {
		return nil, api.Given, s.code
	}
	n := max(0, min(most, s.whole()))
	b := append([]byte(nil), s.bytes[:n:n]...)
	s.drop(n)
	s.over = s.ended && s.at == s.last
	if s.over {
		return b, api.Finished, 0
	}
	return b, api.Open, 0
}
