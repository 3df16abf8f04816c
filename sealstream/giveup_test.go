package sealstream_test

import (
	"math"
	"reflect"
	"strings"
	"testing"

	"sealstream/api"
)

func TestGiveUpAsksTheStreamAndTheCode(t *testing.T) {
	a, _ := pair(t, small())
	for _, k := range []int{-1, 4, math.MinInt, math.MaxInt} {
		givesUp(t, a, k, 0, api.ErrStream)
		givesUp(t, a, k, top+1, api.ErrStream) // named ahead of ErrState
	}
	for k := range api.MaxStreams {
		for _, code := range []uint64{top + 1, 1 << 63, math.MaxUint64} {
			givesUp(t, a, k, code, api.ErrState)
		}
	}
	sendsNothing(t, a, "P18: none was given up")
	for k := range api.MaxStreams {
		writes(t, a, k, "x", 1, nil)
		givesUp(t, a, k, top-uint64(k), nil)
		givesUp(t, a, k, top-uint64(k), api.ErrState)
		givesUp(t, a, k, 0, api.ErrState)
		givesUp(t, a, k, top+1, api.ErrState)
		writes(t, a, k, "x", 0, api.ErrState)
		writes(t, a, k, "", 0, api.ErrState)
		finishes(t, a, k, api.ErrState)
		came(t, a, k, 0, nil)
	}
	sendsFrames(t, a, "P18: with the first code", resetOf(0, 0, top), resetOf(1, 0, top-1), resetOf(2, 0, top-2), resetOf(3, 0, top-3))
}

// TestWhereAStreamThatWasGivenUpEnds: behind the last of its bytes that were sent, be they lost or not.
func TestWhereAStreamThatWasGivenUpEnds(t *testing.T) {
	a, _ := pair(t, wide())
	writes(t, a, 0, "never sent", 10, nil)
	givesUp(t, a, 0, 1, nil)
	sendsFrames(t, a, "P18: nothing was sent", resetOf(0, 0, 1))
	sendsBytes(t, a, 1, "sent", 1)
	writes(t, a, 1, " and not", 8, nil)
	givesUp(t, a, 1, 2, nil)
	sendsFrames(t, a, "P18: a part was sent", resetOf(1, 4, 2))
	receives(t, a, packet(t, 0, ackOf(api.Range{Lo: 0, Hi: 2})), nil)
	came(t, a, 1, 4, nil)
	sendsBytes(t, a, 2, "lost", 3)
	ticks(a, 4)
	givesUp(t, a, 2, 3, nil)
	sendsFrames(t, a, "P18: what was lost had been sent", resetOf(2, 4, 3))
	receives(t, a, packet(t, 1, acked(4)), nil)
	writes(t, a, 3, strings.Repeat("x", 1000), 1000, nil)
	n, _ := joined(t, sends(t, a, true), 3)
	givesUp(t, a, 3, 4, nil)
	sendsNothing(t, a, "P16: ten are on their way")
	ticks(a, 4)
	sendsFrames(t, a, "P18: what ten packets have", resetOf(3, uint64(len(n)), 4))
	ticks(a, 3)
	sendsNothing(t, a, "P18: none of its bytes any more")
}

// TestNoBytesBehindGiveUp: of no Data that was lost, nor of an end.
func TestNoBytesBehindGiveUp(t *testing.T) {
	a, _ := pair(t, wide())
	for n := range uint64(5) {
		sendsBytes(t, a, 0, "ab", n)
	}
	finishes(t, a, 0, nil)
	sendsFrames(t, a, "P11: the end", fin(0, 10, ""))
	givesUp(t, a, 0, 9, nil)
	receives(t, a, packet(t, 0, acked(4)), nil) // 0 and 1 are lost
	sendsFrames(t, a, "P18: a finished stream", resetOf(0, 10, 9))
	ticks(a, 4)
	sendsFrames(t, a, "P18: all was lost", resetOf(0, 10, 9))
	receives(t, a, packet(t, 1, acked(7)), nil)
	ticks(a, 100)
	sendsNothing(t, a, "P18: that came")
}

// TestCameGoesOnBehindGiveUp: Acks of its bytes count.
func TestCameGoesOnBehindGiveUp(t *testing.T) {
	a, _ := pair(t, wide())
	for n := range uint64(4) {
		sendsBytes(t, a, 0, "abc", n)
	}
	writes(t, a, 0, "def", 3, nil)
	receives(t, a, packet(t, 0, acked(1)), nil)
	givesUp(t, a, 0, 9, nil)
	came(t, a, 0, 0, nil)
	receives(t, a, packet(t, 1, acked(0)), nil)
	came(t, a, 0, 6, nil)
	ticks(a, 4)
	sendsFrames(t, a, "P18", resetOf(0, 12, 9))
	receives(t, a, packet(t, 2, acked(4)), nil)
	came(t, a, 0, 6, nil)
	receives(t, a, packet(t, 3, ackOf(api.Range{Lo: 2, Hi: 3})), nil) // lost by then
	came(t, a, 0, 12, nil)
	writes(t, a, 0, "ghi", 0, api.ErrState)
	ticks(a, 100)
	sendsNothing(t, a, "P18: all is told")
}

// TestAnEndThatCameIsGivenUp: its writer may; what its reader has said stays.
func TestAnEndThatCameIsGivenUp(t *testing.T) {
	a, b := pair(t, wide())
	for k := range api.MaxStreams {
		writes(t, a, k, "abc", 3, nil)
		if k < 3 {
			finishes(t, a, k, nil)
		}
	}
	carry(t, a, b)
	carry(t, b, a)
	reads(t, b, 0, 9, "abc", api.Finished)
	reads(t, b, 1, 2, "ab", api.Open)
	for k := range api.MaxStreams {
		givesUp(t, a, k, uint64(k), nil)
	}
	carry(t, a, b)
	reads(t, b, 0, 9, "", api.Finished)
	for k := 1; k < 4; k++ {
		readsGiven(t, b, k, uint64(k))
	}
	carry(t, b, a)
	for k := range api.MaxStreams {
		came(t, a, k, 3, nil)
	}
	ticks(a, 100)
	sendsNothing(t, a, "P18: all is told")
}

// TestGivenUpComesAheadOfBytes: which are no error then, and are not read.
func TestGivenUpComesAheadOfBytes(t *testing.T) {
	a, b := pair(t, small())
	writes(t, a, 2, strings.Repeat("x", 20), 20, nil)
	finishes(t, a, 2, nil)
	bytes := a.Packets()
	givesUp(t, a, 2, 77, nil)
	carry(t, a, b)
	readsGiven(t, b, 2, 77)
	for _, p := range bytes {
		receives(t, b, p, nil)
	}
	readsGiven(t, b, 2, 77)
	carry(t, b, a)
	came(t, a, 2, 20, nil)
}

// TestOneStreamGivenUp leaves the others, and what the other side writes.
func TestOneStreamGivenUp(t *testing.T) {
	a, b := pair(t, wide())
	for k := range api.MaxStreams {
		writes(t, a, k, "abc", 3, nil)
		writes(t, b, k, "def", 3, nil)
	}
	givesUp(t, a, 1, 5, nil)
	l := sends(t, a, true)
	if got := framesOf(l, api.Data); !reflect.DeepEqual(got, []api.Frame{data(0, 0, "abc"), data(2, 0, "abc"), data(3, 0, "abc")}) {
		t.Errorf("P18: sent are %+v", got)
	}
	for _, s := range l {
		receives(t, b, s.packet, nil)
	}
	carry(t, b, a)
	for k := range api.MaxStreams {
		reads(t, a, k, 9, "def", api.Open)
		if k == 1 {
			readsGiven(t, b, k, 5)
			continue
		}
		reads(t, b, k, 9, "abc", api.Open)
		writes(t, a, k, "x", 1, nil)
	}
	writes(t, b, 1, "more", 4, nil)
	carry(t, a, b)
	carry(t, b, a)
	reads(t, a, 1, 9, "more", api.Open)
}

// TestGivenUpInTheMidst: its reader has some of it, and is told; the others come through, though packets are lost.
func TestGivenUpInTheMidst(t *testing.T) {
	a, b := talkers(t, small(), 300)
	lossy := func(a, b *talker) {
		for i, p := range a.side.Packets() {
			if i%3 != 1 {
				b.side.Receive(p)
			}
		}
		b.read()
	}
	for range 8 {
		a.write()
		b.write()
		a.side.Tick()
		b.side.Tick()
		lossy(a, b)
		lossy(b, a)
	}
	some := b.got[2]
	if some == "" || some == a.text[2] {
		t.Fatalf("%d bytes of 300 came", len(some))
	}
	a.giveUp(2)
	comesThrough(t, a, b, 20, inTurn)
	if b.got[2] != some {
		t.Errorf("P18: %d bytes were read, and %d when it was given up", len(b.got[2]), len(some))
	}
	readsGiven(t, b.side, 2, 102)
}

// TestAResetThatComes: what Read says behind it, in whatever packets it came.
func TestAResetThatComes(t *testing.T) {
	for name, c := range map[string]struct {
		frames []api.Frame
		want   error
		code   uint64
	}{
		"of nothing":                        {[]api.Frame{resetOf(2, 0, 5)}, nil, 5},
		"the greatest":                      {[]api.Frame{resetOf(2, top, top)}, nil, top},
		"code 0":                            {[]api.Frame{resetOf(2, 9, 0)}, nil, 0},
		"bytes up to it":                    {[]api.Frame{data(2, 0, "abc"), resetOf(2, 3, 5)}, nil, 5},
		"bytes and a hole":                  {[]api.Frame{data(2, 0, "abc"), data(2, 9, "j"), resetOf(2, 12, 5)}, nil, 5},
		"at the known end":                  {[]api.Frame{fin(2, 0, "abc"), resetOf(2, 3, 5)}, nil, 5},
		"two codes":                         {[]api.Frame{resetOf(2, 3, 5), resetOf(2, 3, 6)}, nil, 5},
		"two codes, the second 0":           {[]api.Frame{resetOf(2, 3, 5), resetOf(2, 3, 0)}, nil, 5},
		"two codes, the first 0":            {[]api.Frame{resetOf(2, 3, 0), resetOf(2, 3, 5)}, nil, 0},
		"the end behind it":                 {[]api.Frame{resetOf(2, 3, 5), fin(2, 0, "abc"), resetOf(2, 3, 6)}, nil, 5},
		"bytes behind it":                   {[]api.Frame{resetOf(2, 3, 5), data(2, 0, "ab"), data(2, 3, "")}, nil, 5},
		"of another":                        {[]api.Frame{resetOf(1, 3, 5), resetOf(2, 4, 6), data(2, 3, "d")}, nil, 6},
		"below a byte":                      {[]api.Frame{data(2, 0, "abc"), resetOf(2, 2, 5)}, api.ErrFinal, 0},
		"below a byte behind a hole":        {[]api.Frame{data(2, 9, "j"), resetOf(2, 9, 5)}, api.ErrFinal, 0},
		"below a frame without bytes":       {[]api.Frame{data(2, 9, ""), resetOf(2, 8, 5)}, api.ErrFinal, 0},
		"above the known end":               {[]api.Frame{fin(2, 0, "abc"), resetOf(2, 4, 5)}, api.ErrFinal, 0},
		"below the known end":               {[]api.Frame{fin(2, 3, ""), resetOf(2, 2, 5)}, api.ErrFinal, 0},
		"two ends, the second above":        {[]api.Frame{resetOf(2, 3, 5), resetOf(2, 4, 5)}, api.ErrFinal, 0},
		"two ends, the second below":        {[]api.Frame{resetOf(2, 3, 5), resetOf(2, 2, 5)}, api.ErrFinal, 0},
		"a byte behind it":                  {[]api.Frame{resetOf(2, 3, 5), data(2, 3, "d")}, api.ErrFinal, 0},
		"a frame without bytes behind it":   {[]api.Frame{resetOf(2, 3, 5), data(2, 4, "")}, api.ErrFinal, 0},
		"an end below it":                   {[]api.Frame{resetOf(2, 3, 5), fin(2, 0, "ab")}, api.ErrFinal, 0},
		"below a byte that came behind one": {[]api.Frame{resetOf(2, 3, 5), data(2, 0, "abc"), resetOf(2, 2, 5)}, api.ErrFinal, 0},
	} {
		for _, apart := range []bool{false, true} {
			a, _ := pair(t, small())
			packets := [][]byte{packet(t, 0, c.frames...)}
			if apart {
				packets = nil
				for i, f := range c.frames {
					packets = append(packets, packet(t, uint64(i), f))
				}
			}
			for _, p := range packets[:len(packets)-1] {
				receives(t, a, p, nil)
			}
			receives(t, a, packets[len(packets)-1], c.want)
			if c.want == nil {
				readsGiven(t, a, 2, c.code)
				reads(t, a, 3, 9, "", api.Open)
			} else {
				isClosed(t, a, c.want)
				leaves(t, a, 7)
			}
			if t.Failed() {
				t.Fatalf("P18: %s, apart: %v", name, apart)
			}
		}
	}
}

// TestAResetBehindFinished: Read has said that, and says it on; an end that moves is an error even so.
func TestAResetBehindFinished(t *testing.T) {
	for _, text := range []string{"", "abc"} {
		end := uint64(len(text))
		a, _ := pair(t, small())
		receives(t, a, packet(t, 0, fin(0, 0, text), fin(1, 0, text)), nil)
		reads(t, a, 0, 9, text, api.Finished)
		receives(t, a, packet(t, 1, resetOf(0, end, 5), resetOf(1, end, 6)), nil)
		reads(t, a, 0, 9, "", api.Finished)
		readsGiven(t, a, 1, 6) // nobody had asked
		receives(t, a, packet(t, 2, resetOf(0, end, 7), fin(0, 0, text), data(0, 0, text)), nil)
		reads(t, a, 0, 9, "", api.Finished)
		receives(t, a, packet(t, 3, resetOf(0, end+1, 5)), api.ErrFinal)
		isClosed(t, a, api.ErrFinal)
	}
}

// TestAResetBehindOpen: all was read, but no end was known.
func TestAResetBehindOpen(t *testing.T) {
	a, _ := pair(t, small())
	receives(t, a, packet(t, 0, data(0, 0, "abc")), nil)
	reads(t, a, 0, 9, "abc", api.Open)
	receives(t, a, packet(t, 1, resetOf(0, 3, 5)), nil)
	readsGiven(t, a, 0, 5)
}

// TestAResetThatWasTurned: nothing turns, and one that comes twice is nothing.
func TestAResetThatWasTurned(t *testing.T) {
	a, _ := pair(t, small())
	good := packet(t, 0, resetOf(0, 3, 5))
	for i := range good {
		p := append([]byte(nil), good...)
		p[i] ^= 0x10
		receives(t, a, p, api.ErrSeal)
	}
	isOpen(t, a, "P12: nothing turns")
	receives(t, a, good, nil)
	receives(t, a, packet(t, 0, resetOf(0, 9, 6)), nil) // its number came already
	readsGiven(t, a, 0, 5)
}
