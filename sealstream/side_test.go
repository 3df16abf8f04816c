package sealstream_test

import (
	"bytes"
	"errors"
	"math"
	"reflect"
	"testing"

	"sealstream/api"
	"sealstream/sealstream"
)

func newSide(t *testing.T, c api.Config, first bool) *sealstream.Conn {
	t.Helper()
	s, err := sealstream.New(c, counting(), first)
	if s == nil || err != nil {
		t.Fatalf("P8: New(%+v) = %v, %v", c, s, err)
	}
	return s
}

func pair(t *testing.T, c api.Config) (a, b *sealstream.Conn) {
	t.Helper()
	return newSide(t, c, true), newSide(t, c, false)
}

// packet is one that the second side sealed.
func packet(t *testing.T, n uint64, l ...api.Frame) []byte {
	t.Helper()
	b, err := sealstream.Encode(l)
	if err != nil {
		t.Fatalf("Encode(%+v) = %v", l, err)
	}
	return sealstream.Seal(counting(), false, n, b)
}

func data(k int, offset uint64, s string) api.Frame {
	return api.Frame{Kind: api.Data, Stream: k, Offset: offset, Data: s}
}

func fin(k int, offset uint64, s string) api.Frame {
	f := data(k, offset, s)
	f.Fin = true
	return f
}

func acked(numbers ...uint64) api.Frame {
	var l []api.Range
	for _, n := range numbers {
		l = append(l, api.Range{Lo: n, Hi: n})
	}
	return ackOf(l...)
}

// sent is what a side sends now, by number and frames.
type sent struct {
	number uint64
	frames []api.Frame
	packet []byte
}

func opened(t *testing.T, first bool, p []byte) sent {
	t.Helper()
	n, b, err := sealstream.Unseal(counting(), first, p)
	l, bad := sealstream.Decode(b)
	if err != nil || bad != nil {
		t.Fatalf("P10: a packet %x that is none: %v, %v", p, err, bad)
	}
	again, err := sealstream.Encode(l)
	if err != nil || !bytes.Equal(again, b) {
		t.Fatalf("P10: frames not as Encode writes them: %x, %x, %v", b, again, err)
	}
	return sent{n, l, p}
}

func sends(t *testing.T, c *sealstream.Conn, first bool) []sent {
	t.Helper()
	l := c.Packets()
	if l != nil && len(l) == 0 {
		t.Errorf("P2: an empty list that is not nil")
	}
	var out []sent
	for _, p := range l {
		out = append(out, opened(t, first, p))
	}
	return out
}

func sendsNothing(t *testing.T, c *sealstream.Conn, why string) {
	t.Helper()
	if l := c.Packets(); l != nil {
		t.Errorf("%s: %d packets", why, len(l))
	}
}

// framesOf is all frames of a kind, in order.
func framesOf(l []sent, kind int) (all []api.Frame) {
	for _, s := range l {
		for _, f := range s.frames {
			if f.Kind == kind {
				all = append(all, f)
			}
		}
	}
	return all
}

func receives(t *testing.T, c *sealstream.Conn, p []byte, want error) {
	t.Helper()
	own := bytes.Clone(p)
	if err := c.Receive(own); !reflect.DeepEqual(err, want) {
		t.Errorf("P12: Receive(%x) = %v, want %v", p, err, want)
	}
	if !bytes.Equal(own, p) {
		t.Errorf("P2: Receive wrote into its packet: %x, was %x", own, p)
	}
	for i := range own {
		own[i] = '!'
	}
}

// carry brings all packets of a to b.
func carry(t *testing.T, a, b *sealstream.Conn) int {
	t.Helper()
	l := a.Packets()
	for _, p := range l {
		receives(t, b, p, nil)
	}
	return len(l)
}

func writes(t *testing.T, c *sealstream.Conn, k int, s string, n int, want error) {
	t.Helper()
	own := []byte(s)
	if got, err := c.Write(k, own); got != n || err != want {
		t.Errorf("P9: Write(%d, %d bytes) = %d, %v, want %d, %v", k, len(s), got, err, n, want)
	}
	if string(own) != s {
		t.Errorf("P2: Write wrote into its bytes: %q", own)
	}
	for i := range own {
		own[i] = '!'
	}
}

func finishes(t *testing.T, c *sealstream.Conn, k int, want error) {
	t.Helper()
	if err := c.Finish(k); err != want {
		t.Errorf("P9: Finish(%d) = %v, want %v", k, err, want)
	}
}

func givesUp(t *testing.T, c *sealstream.Conn, k int, code uint64, want error) {
	t.Helper()
	if err := c.GiveUp(k, code); err != want {
		t.Errorf("P18: GiveUp(%d, %d) = %v, want %v", k, code, err, want)
	}
}

func closes(t *testing.T, c *sealstream.Conn, code uint64, want error) {
	t.Helper()
	if err := c.Close(code); err != want {
		t.Errorf("P19: Close(%d) = %v, want %v", code, err, want)
	}
}

func came(t *testing.T, c *sealstream.Conn, k int, n int, want error) {
	t.Helper()
	if got, err := c.Came(k); got != n || err != want {
		t.Errorf("P9: Came(%d) = %d, %v, want %d, %v", k, got, err, n, want)
	}
}

func reads(t *testing.T, c *sealstream.Conn, k, most int, s string, state int) {
	t.Helper()
	b, st, code, err := c.Read(k, most)
	if string(b) != s || st != state || code != 0 || err != nil || len(b) == 0 && b != nil {
		t.Errorf("P15: Read(%d, %d) = %q, %d, %d, %v, want %q, %d", k, most, b, st, code, err, s, state)
	}
	for i := range b {
		b[i] = '!'
	}
}

func TestNewAsksBounds(t *testing.T) {
	good := api.Config{MTU: 100, Window: 100}
	for _, c := range []struct {
		mtu, window int
		ok          bool
	}{
		{63, 100, false}, {64, 100, true}, {300, 100, true}, {301, 100, false},
		{100, 15, false}, {100, 16, true}, {100, 1024, true}, {100, 1025, false},
		{64, 16, true}, {300, 1024, true}, {64, 1024, true}, {300, 16, true},
		{0, 0, false}, {-64, 100, false}, {100, -16, false}, {63, 15, false}, {301, 1025, false},
		{math.MaxInt, 100, false}, {math.MinInt, 100, false}, {100, math.MaxInt, false}, {100, math.MinInt, false},
	} {
		for _, first := range []bool{true, false} {
			s, err := sealstream.New(api.Config{MTU: c.mtu, Window: c.window}, counting(), first)
			if c.ok != (s != nil) || c.ok != (err == nil) || !c.ok && err != api.ErrConfig {
				t.Errorf("P8: New(%d, %d) = %v, %v", c.mtu, c.window, s, err)
			}
		}
	}
	s := newSide(t, good, true)
	if s.Err() != nil {
		t.Errorf("P19: a new side is closed: %v", s.Err())
	}
	sendsNothing(t, s, "P10: a new side")
	for k := range api.MaxStreams {
		came(t, s, k, 0, nil)
		reads(t, s, k, 10, "", api.Open)
	}
}

// TestSidesAreApart: two of one configuration and key share nothing.
func TestSidesAreApart(t *testing.T) {
	key := counting()
	a, _ := sealstream.New(api.Config{MTU: 64, Window: 16}, key, true)
	b, _ := sealstream.New(api.Config{MTU: 64, Window: 16}, key, true)
	writes(t, a, 0, "abc", 3, nil)
	finishes(t, a, 0, nil)
	sendsNothing(t, b, "P2: another side was written")
	writes(t, b, 0, "abcd", 4, nil)
}

// TestEqualCallsEqualAnswers: nothing but the calls decides.
func TestEqualCallsEqualAnswers(t *testing.T) {
	run := func() (all [][]byte) {
		a, b := pair(t, api.Config{MTU: 64, Window: 100})
		for i := range 30 {
			for k := range api.MaxStreams {
				a.Write(k, counted(30+i))
				b.Write(k, counted(10+i))
			}
			for j, p := range a.Packets() {
				if all = append(all, p); (i+j)%3 > 0 {
					b.Receive(p)
				}
			}
			for j, p := range b.Packets() {
				if all = append(all, p); (i+j)%4 > 0 {
					a.Receive(p)
				}
			}
			s, _, _, _ := b.Read(i%4, i)
			all = append(all, s)
			a.Tick()
			b.Tick()
		}
		return all
	}
	if !reflect.DeepEqual(run(), run()) {
		t.Errorf("P2: equal calls, other packets")
	}
}

// TestNoSide: calls on what New did not make do not panic.
func TestNoSide(t *testing.T) {
	for _, c := range []*sealstream.Conn{nil, {}} {
		isClosed(t, c, api.ErrClosed)
		sendsNothing(t, c, "P1: no side")
	}
}

// isClosed: all calls on a side that is closed, by why, but Packets.
func isClosed(t *testing.T, c *sealstream.Conn, why error) {
	t.Helper()
	for _, k := range []int{-1, 0, 3, 4} { // ErrClosed is named ahead of ErrStream
		writes(t, c, k, "abc", 0, api.ErrClosed)
		writes(t, c, k, "", 0, api.ErrClosed)
		finishes(t, c, k, api.ErrClosed)
		givesUp(t, c, k, 5, api.ErrClosed)
		givesUp(t, c, k, top+1, api.ErrClosed)
		came(t, c, k, 0, api.ErrClosed)
		if b, state, code, err := c.Read(k, 5); b != nil || state != 0 || code != 0 || err != api.ErrClosed {
			t.Errorf("P15: Read of a closed side = %q, %d, %d, %v", b, state, code, err)
		}
	}
	for _, code := range []uint64{0, 5, top, top + 1, math.MaxUint64} { // and of ErrState
		closes(t, c, code, api.ErrClosed)
	}
	for _, p := range [][]byte{nil, make([]byte, 16), make([]byte, 400), packet(t, 1000, ping()), packet(t, 1001, data(0, 5000, "x")), packet(t, 1002, closeOf(3)), packet(t, 1003, resetOf(0, 0, 1)), packet(t, 1004, acked(top))} {
		receives(t, c, p, api.ErrClosed)
		if len(p) > 0 {
			p[len(p)-1] ^= 1
			receives(t, c, p, api.ErrClosed)
		}
	}
	receives(t, c, sealstream.Seal(counting(), false, 1005, []byte{0xff}), api.ErrClosed)
	ticks(c, 2)
	if err := c.Err(); err != why || !errors.Is(err, why) {
		t.Errorf("P19: Err = %v, want %v", err, why)
	}
}
