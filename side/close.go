package side

import "sealstream/api"

// Close ends the side, with a code for the other (P19).
func (s *Side) Close(code uint64) error {
	if s.closed() {
		return api.ErrClosed
	}
	if code > api.MaxValue {
		return api.ErrState
	}
	s.end(api.ErrClosed, code)
	return nil
}

// end closes the side. What is kept of it is why, and its last packet.
func (s *Side) end(why api.Errno, code uint64) {
	var last [][]byte
	if why != api.ErrPeer { // who closed knows it
		leave := api.Frame{Kind: api.Close, Code: code}
		last = append(last, s.seal(s.flight.Number(), bytesOf(leave)))
	}
	*s = Side{why: why, last: last}
}

func (s *Side) closed() bool { return s == nil || s.why != api.OK }

// part is the last packet, once (P19).
func (s *Side) part() [][]byte {
	if s == nil {
		return nil
	}
	l := s.last
	s.last = nil
	return l
}

// Err is why the side is closed (P19).
func (s *Side) Err() error {
	if s == nil {
		return api.ErrClosed
	}
	if s.why == api.OK {
		return nil
	}
	return s.why
}
