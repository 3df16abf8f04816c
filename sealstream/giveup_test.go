package sealstream_test

import (
	"math"
	"reflect"
	"strings"
	"testing"

	"sealstream/api"
)

func TestGiveUpAsksTheStreamAndTheCode(t *testing.T) {
	a, _ := pair(t, small())
	for _, k := range []int{-1, 4, math.MinInt, math.MaxInt} {
		givesUp(t, a, k, 0, api.ErrStream)
		givesUp(t, a, k, top+1, api.ErrStream) // named ahead of ErrState
	}
	for k := range api.MaxStreams {
		for _, code := range []uint64{top + 1, 1 << 63, math.MaxUint64} {
			givesUp(t, a, k, code, api.ErrState)
		}
	}
	sendsNothing(t, a, "P18: none was given up")
	for k := range api.MaxStreams {
		writes(t, a, k, "x", 1, nil)
		givesUp(t, a, k, top-uint64(k), nil)
		givesUp(t, a, k, top-uint64(k), api.ErrState)
		givesUp(t, a, k, 0, api.ErrState)
		givesUp(t, a, k, top+1, api.ErrState)
		writes(t, a, k, "x", 0, api.ErrState)
		writes(t, a, k, "", 0, api.ErrState)
		finishes(t, a, k, api.ErrState)
		came(t, a, k, 0, nil)
	}
	sendsFrames(t, a, "P18: with the first code", resetOf(0, 0, top), resetOf(1, 0, top-1), resetOf(2, 0, top-2), resetOf(3, 0, top-3))
}

// TestWhereAStreamThatWasGivenUpEnds: behind the last of its bytes that were sent, be they lost or not.
func TestWhereAStreamThatWasGivenUpEnds(t *testing.T) {
	a, _ := pair(t, wide())
	writes(t, a, 0, "never sent", 10, nil)
	givesUp(t, a, 0, 1, nil)
	sendsFrames(t, a, "P18: nothing was sent", resetOf(0, 0, 1))
	sendsBytes(t, a, 1, "sent", 1)
	writes(t, a, 1, " and not", 8, nil)
	givesUp(t, a, 1, 2, nil)
	sendsFrames(t, a, "P18: a part was sent", resetOf(1, 4, 2))
	receives(t, a, packet(t, 0, ackOf(api.Range{Lo: 0, Hi: 2})), nil)
	came(t, a, 1, 4, nil)
	sendsBytes(t, a, 2, "lost", 3)
	ticks(a, 4)
	givesUp(t, a, 2, 3, nil)
	sendsFrames(t, a, "P18: what was lost had been sent", resetOf(2, 4, 3))
	receives(t, a, packet(t, 1, acked(4)), nil)
	writes(t, a, 3, strings.Repeat("x", 1000), 1000, nil)
	n, _ := joined(t, sends(t, a, true), 3)
	givesUp(t, a, 3, 4, nil)
	sendsNothing(t, a, "P16: ten are on their way")
	ticks(a, 4)
	sendsFrames(t, a, "P18: what ten packets have", resetOf(3, uint64(len(n)), 4))
	ticks(a, 3)
	sendsNothing(t, a, "P18: none of its bytes any more")
}

// TestNoBytesBehindGiveUp: of no Data that was lost, nor of an end.
func TestNoBytesBehindGiveUp(t *testing.T) {
	a, _ := pair(t, wide())
	for n := range uint64(5) {
		sendsBytes(t, a, 0, "ab", n)
	}
	finishes(t, a, 0, nil)
	sendsFrames(t, a, "P11: the end", fin(0, 10, ""))
	givesUp(t, a, 0, 9, nil)
	receives(t, a, packet(t, 0, acked(4)), nil) // 0 and 1 are lost
	sendsFrames(t, a, "P18: a finished stream", resetOf(0, 10, 9))
	ticks(a, 4)
	sendsFrames(t, a, "P18: all was lost", resetOf(0, 10, 9))
	receives(t, a, packet(t, 1, acked(7)), nil)
	ticks(a, 100)
	sendsNothing(t, a, "P18: that came")
}

// TestCameGoesOnBehindGiveUp: Acks of its bytes count.
func TestCameGoesOnBehindGiveUp(t *testing.T) {
	a, _ := pair(t, wide())
	for n := range uint64(4) {
		sendsBytes(t, a, 0, "abc", n)
	}
	writes(t, a, 0, "def", 3, nil)
	receives(t, a, packet(t, 0, acked(1)), nil)
	givesUp(t, a, 0, 9, nil)
	came(t, a, 0, 0, nil)
	receives(t, a, packet(t, 1, acked(0)), nil)
	came(t, a, 0, 6, nil)
	ticks(a, 4)
	sendsFrames(t, a, "P18", resetOf(0, 12, 9))
	receives(t, a, packet(t, 2, acked(4)), nil)
	came(t, a, 0, 6, nil)
	receives(t, a, packet(t, 3, ackOf(api.Range{Lo: 2, Hi: 3})), nil) // lost by then
	came(t, a, 0, 12, nil)
	writes(t, a, 0, "ghi", 0, api.ErrState)
	ticks(a, 100)
	sendsNothing(t, a, "P18: all is told")
}

// TestAnEndThatCameIsGivenUp: its writer may; what its reader has said stays.
func TestAnEndThatCameIsGivenUp(t *testing.T) {
	a, b := pair(t, wide())
	for k := range api.MaxStreams {
		writes(t, a, k, "abc", 3, nil)
		if k < 3 {
			finishes(t, a, k, nil)
		}
	}
	carry(t, a, b)
	carry(t, b, a)
	reads(t, b, 0, 9, "abc", api.Finished)
	reads(t, b, 1, 2, "ab", api.Open)
	for k := range api.MaxStreams {
		givesUp(t, a, k, uint64(k), nil)
	}
	carry(t, a, b)
	reads(t, b, 0, 9, "", api.Finished)
	for k := 1; k < 4; k++ {
		readsGiven(t, b, k, uint64(k))
	}
	carry(t, b, a)
	for k := range api.MaxStreams {
		came(t, a, k, 3, nil)
	}
	ticks(a, 100)
	sendsNothing(t, a, "P18: all is told")
}

// TestGivenUpComesAheadOfBytes: which are no error then, and are not read.
func TestGivenUpComesAheadOfBytes(t *testing.T) {
	a, b := pair(t, small())
	writes(t, a, 2, strings.Repeat("x", 20), 20, nil)
	finishes(t, a, 2, nil)
	bytes := a.Packets()
	givesUp(t, a, 2, 77, nil)
	carry(t, a, b)
	readsGiven(t, b, 2, 77)
	for _, p := range bytes {
		receives(t, b, p, nil)
	}
	readsGiven(t, b, 2, 77)
	carry(t, b, a)
	came(t, a, 2, 20, nil)
}

// TestOneStreamGivenUp leaves the others, and what the other side writes.
func TestOneStreamGivenUp(t *testing.T) {
	a, b := pair(t, wide())
	for k := range api.MaxStreams {
		writes(t, a, k, "abc", 3, nil)
		writes(t, b, k, "def", 3, nil)
	}
	givesUp(t, a, 1, 5, nil)
	l := sends(t, a, true)
	if got := framesOf(l, api.Data); !reflect.DeepEqual(got, []api.Frame{data(0, 0, "abc"), data(2, 0, "abc"), data(3, 0, "abc")}) {
		t.Errorf("P18: sent are %+v", got)
	}
	for _, s := range l {
		receives(t, b, s.packet, nil)
	}
	carry(t, b, a)
	for k := range api.MaxStreams {
		reads(t, a, k, 9, "def", api.Open)
		if k == 1 {
			readsGiven(t, b, k, 5)
			continue
		}
		reads(t, b, k, 9, "abc", api.Open)
		writes(t, a, k, "x", 1, nil)
	}
	writes(t, b, 1, "more", 4, nil)
	carry(t, a, b)
	carry(t, b, a)
	reads(t, a, 1, 9, "more", api.Open)
}
