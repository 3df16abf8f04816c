package side

import (
	"errors"
	"slices"

	"sealstream/api"
	"sealstream/frame"
	"sealstream/seal"
	"sealstream/stream"
)

// Receive takes a packet (P12 to P14).
func (s *Side) Receive(p []byte) error {
	if s.closed() {
		return api.ErrClosed
	}
	n, b, err := seal.Unseal(s.key, !s.first, p)
	if err != nil {
		return err
	}
	if s.came.passed(n) {
		return nil
	}
	l, err := frame.Decode(b)
	if err != nil {
		return s.fail(err)
	}
	if slices.ContainsFunc(l, s.busy) {
		return api.ErrBusy
	}
	s.came.add(n)
	s.owes = s.owes || slices.ContainsFunc(l, wantsAnswer)
	for _, f := range l {
		if err := s.take(f); err != nil {
			return s.fail(err)
		}
	}
	return nil
}

func (s *Side) busy(f api.Frame) bool {
	return f.Kind == api.Data && s.in[f.Stream].Busy(f, s.config.Window)
}

func wantsAnswer(f api.Frame) bool { return f.Kind != api.Ack && f.Kind != api.Padding }

func (s *Side) take(f api.Frame) error {
	switch f.Kind {
	case api.Ack:
		return s.ack(f)
	case api.Reset:
		return s.in[f.Stream].Reset(f)
	case api.Data:
		return s.in[f.Stream].Data(f)
	case api.Close:
		return api.ErrPeer
	}
	return nil
}

func (s *Side) ack(f api.Frame) error {
	arrive := func(k int, p stream.Piece) { s.out[k].Arrive(p) }
	if err := s.flight.Ack(f.Ranges, arrive); err != nil {
		return err
	}
	s.flight.Forget(func(k int, p stream.Piece) bool { return s.out[k].Settled(p) })
	return nil
}

// fail closes the side by an error, and hands that on. The place of a Fault is told by Receive alone.
func (s *Side) fail(err error) error {
	var why api.Errno
	errors.As(err, &why)
	s.end(why, uint64(why))
	return err
}
