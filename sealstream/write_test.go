package sealstream_test

import (
	"math"
	"strings"
	"testing"

	"sealstream/api"
)

func TestWriteAsksTheStream(t *testing.T) {
	a, _ := pair(t, api.Config{MTU: 64, Window: 16})
	for _, k := range []int{-1, 4, 5, math.MinInt, math.MaxInt} {
		writes(t, a, k, "abc", 0, api.ErrStream)
		writes(t, a, k, "", 0, api.ErrStream)
		finishes(t, a, k, api.ErrStream)
		came(t, a, k, 0, api.ErrStream)
	}
	for _, k := range []int{0, 1, 2, 3} {
		writes(t, a, k, "abc", 3, nil)
		came(t, a, k, 0, nil)
		finishes(t, a, k, nil)
		finishes(t, a, k, api.ErrState)
		writes(t, a, k, "d", 0, api.ErrState)
		writes(t, a, k, "", 0, api.ErrState)
		came(t, a, k, 0, nil)
	}
}

func TestRoomIsTheWindow(t *testing.T) {
	for _, window := range []int{16, 17, 100, 1024} {
		a, _ := pair(t, api.Config{MTU: 64, Window: window})
		writes(t, a, 1, "", 0, nil)
		writes(t, a, 1, strings.Repeat("x", window-1), window-1, nil)
		writes(t, a, 1, "abc", 1, nil)
		writes(t, a, 1, "bc", 0, nil)
		writes(t, a, 1, "", 0, nil)
		writes(t, a, 2, strings.Repeat("y", 5000), window, nil) // each stream has its own
		if window == 16 {
			l := framesOf(sends(t, a, true), api.Data)
			if len(l) != 2 || l[0].Data != strings.Repeat("x", 15)+"a" || l[1].Data != strings.Repeat("y", 16) {
				t.Errorf("P9: what was taken is sent as %+v", l)
			}
		}
		finishes(t, a, 1, nil) // an end needs no room
	}
}

// TestRoomGrowsByWhatCame: Acks of packets behind a hole make no room yet.
func TestRoomGrowsByWhatCame(t *testing.T) {
	a, _ := pair(t, api.Config{MTU: 64, Window: 20})
	for i := range 5 { // packet i has the bytes from 4i on
		writes(t, a, 3, "abcd", 4, nil)
		if l := sends(t, a, true); len(l) != 1 || l[0].number != uint64(i) {
			t.Fatalf("P10: packet %d is %+v", i, l)
		}
	}
	writes(t, a, 3, "e", 0, nil)
	receives(t, a, packet(t, 0, acked(2)), nil)
	came(t, a, 3, 0, nil)
	writes(t, a, 3, "e", 0, nil)
	receives(t, a, packet(t, 1, acked(0)), nil)
	came(t, a, 3, 4, nil)
	writes(t, a, 3, "efghij", 4, nil)
	receives(t, a, packet(t, 2, acked(1)), nil)
	came(t, a, 3, 12, nil)
	writes(t, a, 3, "ijklmnopq", 8, nil)
	receives(t, a, packet(t, 3, ackOf(api.Range{Lo: 0, Hi: 2})), nil) // named already
	came(t, a, 3, 12, nil)
	came(t, a, 2, 0, nil)
}

// TestWhatWasLostMayStillCome: an Ack of a packet that was lost by then counts, even of a part of its bytes that is on its way again.
func TestWhatWasLostMayStillCome(t *testing.T) {
	a, _ := pair(t, api.Config{MTU: 64, Window: 50})
	writes(t, a, 0, "abcdef", 6, nil)
	sends(t, a, true)
	for range 4 {
		a.Tick()
	}
	writes(t, a, 0, "ghi", 3, nil)
	if l := framesOf(sends(t, a, true), api.Data); len(l) != 1 || l[0].Data != "abcdefghi" {
		t.Fatalf("P16: what was lost is sent again as %+v", l)
	}
	receives(t, a, packet(t, 0, acked(0)), nil)
	came(t, a, 0, 6, nil)
	writes(t, a, 0, strings.Repeat("x", 60), 47, nil)
	for range 8 {
		a.Tick()
	}
	l := framesOf(sends(t, a, true), api.Data)
	if len(l) != 2 || l[0].Offset != 6 || !strings.HasPrefix(l[0].Data, "ghixxx") {
		t.Errorf("P16: what came after all is sent again: %+v", l)
	}
	receives(t, a, packet(t, 1, acked(1)), nil)
	came(t, a, 0, 9, nil)
}

func TestStreamsEndAt4096(t *testing.T) {
	a, b := pair(t, api.Config{MTU: 300, Window: 1024})
	text := strings.Repeat("0123456789abcdef", 512)
	for taken := 0; taken < 4096; taken += 1000 {
		n := min(1000, 4096-taken)
		writes(t, a, 2, text[taken:taken+1000], n, nil)
		carry(t, a, b)
		reads(t, b, 2, 5000, text[taken:taken+n], api.Open)
		carry(t, b, a)
		came(t, a, 2, taken+n, nil)
	}
	writes(t, a, 2, "x", 0, nil)
	writes(t, a, 1, "x", 1, nil)
	finishes(t, a, 2, nil)
	writes(t, a, 2, "x", 0, api.ErrState)
	carry(t, a, b)
	reads(t, b, 2, 1, "", api.Finished)
	carry(t, b, a)
	came(t, a, 2, 4096, nil)
	sendsNothing(t, a, "P10: all came")
}

// TestRoomOf4096AheadOfTheWindow: near the end of a stream the window is not all there is room for.
func TestRoomOf4096AheadOfTheWindow(t *testing.T) {
	a, b := pair(t, api.Config{MTU: 300, Window: 1024})
	for i := range 4 {
		writes(t, a, 0, strings.Repeat("x", 1000), 1000, nil)
		carry(t, a, b)
		b.Read(0, 1000)
		if i < 3 {
			carry(t, b, a)
		}
	}
	writes(t, a, 0, strings.Repeat("y", 1000), 24, nil) // of the window: 1000 did not come
	carry(t, b, a)
	writes(t, a, 0, strings.Repeat("y", 1000), 72, nil)
	writes(t, a, 0, "y", 0, nil)
}

func TestCameIsOfEachStream(t *testing.T) {
	a, b := pair(t, api.Config{MTU: 64, Window: 100})
	for k := range api.MaxStreams {
		writes(t, a, k, strings.Repeat("x", 10+k), 10+k, nil)
	}
	carry(t, a, b)
	for k := range api.MaxStreams {
		came(t, a, k, 0, nil)
	}
	carry(t, b, a)
	for k := range api.MaxStreams {
		came(t, a, k, 10+k, nil)
		came(t, b, k, 0, nil)
	}
}
