package sealstream_test

import (
	"math"
	"strings"
	"testing"

	"sealstream/api"
	"sealstream/sealstream"
)

func TestCloseAsksTheCode(t *testing.T) {
	for _, code := range []uint64{0, 1, 63, 64, 1<<14 - 1, 1 << 14, 1 << 30, top - 1, top} {
		a, _ := pair(t, small())
		for _, great := range []uint64{top + 1, 1 << 63, math.MaxUint64} {
			closes(t, a, great, api.ErrState)
		}
		isOpen(t, a, "P19: a code that is too great")
		writes(t, a, 0, "abc", 3, nil)
		sendsFrames(t, a, "P19: the side goes on", data(0, 0, "abc"))
		closes(t, a, code, nil)
		isClosed(t, a, api.ErrClosed)
		leaves(t, a, code)
		isClosed(t, a, api.ErrClosed)
	}
}

// TestTheLastPacketIsAlone: whatever else was to be sent, or answered, is not.
func TestTheLastPacketIsAlone(t *testing.T) {
	for name, do := range map[string]func(a *sealstream.Conn){
		"nothing":           func(a *sealstream.Conn) {},
		"bytes":             func(a *sealstream.Conn) { writes(t, a, 0, "abc", 3, nil) },
		"an end":            func(a *sealstream.Conn) { finishes(t, a, 1, nil) },
		"a stream given up": func(a *sealstream.Conn) { givesUp(t, a, 2, 7, nil) },
		"an answer":         func(a *sealstream.Conn) { receives(t, a, packet(t, 0, ping()), nil) },
		"bytes not read":    func(a *sealstream.Conn) { receives(t, a, packet(t, 0, fin(0, 0, "abc")), nil) },
		"what is lost": func(a *sealstream.Conn) {
			writes(t, a, 0, "abc", 3, nil)
			a.Packets()
			ticks(a, 4)
		},
	} {
		for _, why := range []api.Errno{api.ErrClosed, api.ErrAck, api.ErrPeer} {
			a, _ := pair(t, small())
			do(a)
			switch why {
			case api.ErrClosed:
				closes(t, a, 42, nil)
				leaves(t, a, 42)
			case api.ErrAck:
				receives(t, a, packet(t, 1, acked(50)), api.ErrAck)
				leaves(t, a, 8)
			case api.ErrPeer:
				receives(t, a, packet(t, 1, closeOf(42)), api.ErrPeer)
				sendsNothing(t, a, "P19: the other closed")
			}
			isClosed(t, a, why)
			if t.Failed() {
				t.Fatalf("%s: closed by %v", name, why)
			}
		}
	}
}

// TestTheLastPacketsNumber follows those ahead of it, and asks not how many are on their way.
func TestTheLastPacketsNumber(t *testing.T) {
	for _, first := range []bool{true, false} {
		a := newSide(t, wide(), first)
		writes(t, a, 0, strings.Repeat("x", 1000), 1000, nil)
		if n := len(a.Packets()); n != 10 {
			t.Fatalf("P16: %d packets are on their way", n)
		}
		closes(t, a, 300, nil)
		l := sends(t, a, first)
		if len(l) != 1 || l[0].number != 10 || len(l[0].packet) > 64 {
			t.Errorf("P10, P19: the last packet is %+v, want number 10", l)
		}
		sendsNothing(t, a, "P19: once more")
	}
	a, _ := pair(t, small())
	sendsAck(t, a, 0, 0)
	sendsBytes(t, a, 0, "abc", 1)
	receives(t, a, packet(t, 1, acked(2)), api.ErrAck) // which the last packet will be
	if l := sends(t, a, true); len(l) != 1 || l[0].number != 2 {
		t.Errorf("P10, P19: the last packet is %+v, want number 2", l)
	}
}

// TestCloseTwice: the first code stays, be it sent or not.
func TestCloseTwice(t *testing.T) {
	a, b := pair(t, small())
	closes(t, a, 1, nil)
	closes(t, a, 2, api.ErrClosed)
	closes(t, a, top+1, api.ErrClosed)
	leaves(t, a, 1)
	closes(t, a, 3, api.ErrClosed)
	sendsNothing(t, a, "P19: closed once more")
	closes(t, b, top, nil)
	if l := sends(t, b, false); len(l) != 1 || l[0].number != 0 || l[0].frames[0].Code != top {
		t.Errorf("P19: the second side leaves with %+v", l)
	}
	closes(t, b, 0, api.ErrClosed)
	sendsNothing(t, b, "P19: closed once more")
}

// TestCloseBehindAnError: that is why, and stays it.
func TestCloseBehindAnError(t *testing.T) {
	for _, c := range []struct {
		frames []api.Frame
		why    api.Errno
	}{
		{[]api.Frame{fin(0, 3, ""), fin(0, 2, "")}, api.ErrFinal},
		{[]api.Frame{data(0, 3, ""), resetOf(0, 2, 9)}, api.ErrFinal},
		{[]api.Frame{acked(0)}, api.ErrAck},
		{[]api.Frame{closeOf(77)}, api.ErrPeer},
	} {
		for _, sentFirst := range []bool{false, true} {
			a, _ := pair(t, small())
			receives(t, a, packet(t, 0, c.frames...), c.why)
			last := func() {
				if c.why == api.ErrPeer {
					sendsNothing(t, a, "P19: the other closed")
				} else {
					leaves(t, a, uint64(c.why))
				}
			}
			if sentFirst {
				last()
			}
			closes(t, a, 5, api.ErrClosed)
			isClosed(t, a, c.why)
			if !sentFirst {
				last()
			}
			closes(t, a, 5, api.ErrClosed)
			sendsNothing(t, a, "P19: closed once more")
		}
	}
	a, _ := pair(t, small())
	receives(t, a, sealstream.Seal(counting(), false, 0, []byte{1, 0xff}), &api.Fault{Err: api.ErrFrame, At: 1})
	closes(t, a, 6, api.ErrClosed)
	isClosed(t, a, api.ErrFrame)
	leaves(t, a, 5)
}

// TestErrorsThatDoNotClose: of a seal, and of no room.
func TestErrorsThatDoNotClose(t *testing.T) {
	a, _ := pair(t, small())
	receives(t, a, []byte("forged"), api.ErrSeal)
	receives(t, a, packet(t, 0, data(0, 20, "x")), api.ErrBusy)
	receives(t, a, packet(t, 0, closeOf(1), data(0, 20, "x")), api.ErrBusy)
	turned := packet(t, 0, closeOf(1))
	turned[9] ^= 4
	receives(t, a, turned, api.ErrSeal)
	isOpen(t, a, "P19: neither closes")
	closes(t, a, 8, nil)
	leaves(t, a, 8)
}

// TestTheOtherIsTold: by a side that leaves, and by one that an error closed; it answers nothing.
func TestTheOtherIsTold(t *testing.T) {
	a, b := pair(t, small())
	writes(t, a, 0, "abc", 3, nil)
	writes(t, b, 0, "def", 3, nil)
	carry(t, a, b)
	late := b.Packets()
	closes(t, a, 42, nil)
	for _, p := range late {
		receives(t, a, p, api.ErrClosed)
	}
	last := a.Packets()
	if len(last) != 1 {
		t.Fatalf("P19: %d packets", len(last))
	}
	receives(t, b, last[0], api.ErrPeer)
	isClosed(t, b, api.ErrPeer)
	sendsNothing(t, b, "P19: the other closed")
	receives(t, b, last[0], api.ErrClosed)
	if a.Err() != api.ErrClosed || b.Err() != api.ErrPeer {
		t.Errorf("P19: Err = %v, %v", a.Err(), b.Err())
	}

	a, b = pair(t, small())
	receives(t, a, packet(t, 0, acked(0)), api.ErrAck)
	receives(t, b, a.Packets()[0], api.ErrPeer)
	isClosed(t, b, api.ErrPeer)
	sendsNothing(t, b, "P19: the other closed")
}

// TestBothLeave: neither is told, and each stays closed by itself.
func TestBothLeave(t *testing.T) {
	a, b := pair(t, small())
	closes(t, a, 1, nil)
	closes(t, b, 2, nil)
	one, two := a.Packets(), b.Packets()
	receives(t, a, two[0], api.ErrClosed)
	receives(t, b, one[0], api.ErrClosed)
	isClosed(t, a, api.ErrClosed)
	isClosed(t, b, api.ErrClosed)
	sendsNothing(t, a, "P19: once more")
	sendsNothing(t, b, "P19: once more")
}

// TestTheCallersLastPacket: what Packets handed out is its own.
func TestTheCallersLastPacket(t *testing.T) {
	a, b := pair(t, small())
	closes(t, a, 9, nil)
	l := a.Packets()
	own := append([]byte(nil), l[0]...)
	for i := range l[0] {
		l[0][i] = '!'
	}
	sendsNothing(t, a, "P19: once more")
	receives(t, b, own, api.ErrPeer)
}
