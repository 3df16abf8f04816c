// Package side is one side of a connection (P8 to P19): what it sends, and what comes to it.
package side

import (
	"sealstream/api"
	"sealstream/flight"
	"sealstream/stream"
)

// Side is what a side knows. None at all (nil) answers as one that is closed.
type Side struct {
	config api.Config
	key    api.Key
	first  bool
	out    [api.MaxStreams]stream.Out
	in     [api.MaxStreams]stream.In
	flight flight.Flight
	came   numbers
	owes   bool // a packet came that is to be answered
	why    api.Errno
	last   [][]byte // of a side that is closed: what it has yet to send
}

// New makes a side (P8).
func New(c api.Config, key api.Key, first bool) (*Side, error) {
	if c.MTU < api.MinMTU || c.MTU > api.MaxMTU || c.Window < api.MinWindow || c.Window > api.MaxWindow {
		return nil, api.ErrConfig
	}
	return &Side{config: c, key: key, first: first, flight: flight.New()}, nil
}

// refuses is why a call on a stream is none, if it is none.
func (s *Side) refuses(k int) error {
	if s.closed() {
		return api.ErrClosed
	}
	if k < 0 || k >= api.MaxStreams {
		return api.ErrStream
	}
	return nil
}

// writable is a stream that may be written to.
func (s *Side) writable(k int) (*stream.Out, error) {
	if err := s.refuses(k); err != nil {
		return nil, err
	}
	if s.out[k].Done() {
		return nil, api.ErrState
	}
	return &s.out[k], nil
}

// Write takes the stream's next bytes, as far as there is room (P9).
func (s *Side) Write(k int, b []byte) (int, error) {
	o, err := s.writable(k)
	if err != nil {
		return 0, err
	}
	return o.Write(b, s.config.Window), nil
}

// Finish ends a stream (P9).
func (s *Side) Finish(k int) error {
	o, err := s.writable(k)
	if err != nil {
		return err
	}
	o.Finish()
	return nil
}

// GiveUp lets a stream go (P18).
func (s *Side) GiveUp(k int, code uint64) error {
	if err := s.refuses(k); err != nil {
		return err
	}
	if s.out[k].GivenUp() || code > api.MaxValue {
		return api.ErrState
	}
	s.out[k].GiveUp(code)
	return nil
}

// Came is how many of a stream's bytes came (P9).
func (s *Side) Came(k int) (int, error) {
	if err := s.refuses(k); err != nil {
		return 0, err
	}
	return s.out[k].Came(), nil
}

// Read is a stream's next bytes, its state behind them, and its code (P15).
func (s *Side) Read(k int, most int) ([]byte, int, uint64, error) {
	if err := s.refuses(k); err != nil {
		return nil, 0, 0, err
	}
	b, state, code := s.in[k].Read(most)
	return b, state, code, nil
}

// Tick lets a tick pass (P8, P16).
func (s *Side) Tick() {
	if !s.closed() {
		s.flight.Tick()
	}
}
