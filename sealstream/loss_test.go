package sealstream_test

import (
	"fmt"
	"reflect"
	"strings"
	"testing"

	"sealstream/api"
	"sealstream/sealstream"
)

func wide() api.Config { return api.Config{MTU: 64, Window: 1024} }

// sendsFrames: all frames that are sent now, in as many packets as may be.
func sendsFrames(t *testing.T, c *sealstream.Conn, why string, want ...api.Frame) []sent {
	t.Helper()
	l := sends(t, c, true)
	var got []api.Frame
	for _, s := range l {
		got = append(got, s.frames...)
	}
	if !reflect.DeepEqual(got, want) {
		t.Errorf("%s: sent are %+v, want %+v", why, got, want)
	}
	return l
}

// sendsBytes writes a few bytes, which go in one packet, of that number.
func sendsBytes(t *testing.T, c *sealstream.Conn, k int, s string, number uint64) {
	t.Helper()
	writes(t, c, k, s, len(s), nil)
	if l := sends(t, c, true); len(l) != 1 || l[0].number != number {
		t.Fatalf("P10: %q is sent as %+v, not in packet %d", s, l, number)
	}
}

// sendsAck lets a packet of Acks alone be sent, of that number.
func sendsAck(t *testing.T, c *sealstream.Conn, ofPing, number uint64) {
	t.Helper()
	receives(t, c, packet(t, ofPing, ping()), nil)
	if l := sends(t, c, true); len(l) != 1 || l[0].number != number || len(framesOf(l, api.Ack)) != len(l[0].frames) {
		t.Fatalf("P11: a Ping is answered by %+v, not by packet %d", l, number)
	}
}

// quietFor: for so many ticks nothing is sent; then something is, behind one more.
func quietFor(t *testing.T, c *sealstream.Conn, n int, why string) {
	t.Helper()
	sendsNothing(t, c, why+": at once")
	for i := range n {
		c.Tick()
		sendsNothing(t, c, fmt.Sprint(why, ": behind ", i+1, " ticks"))
	}
	c.Tick()
}

// TestNumbersAbove: one or two above it is on its way yet, three and more it is lost.
func TestNumbersAbove(t *testing.T) {
	for above := uint64(1); above < 7; above++ {
		a, _ := pair(t, wide())
		for n := range above + 1 {
			sendsBytes(t, a, int(n%4), string(rune('a'+n)), n)
		}
		receives(t, a, packet(t, 0, ackOf(api.Range{Lo: 1, Hi: above})), nil)
		if above < 3 {
			sendsNothing(t, a, fmt.Sprint("P16: named is one ", above, " above"))
			continue
		}
		sendsFrames(t, a, fmt.Sprint("P16: named is one ", above, " above"), data(0, 0, "a"))
		sendsNothing(t, a, "P16: it is on its way again")
	}
}

// TestNumbersAboveLoseEach: those that are three or more below the highest, and no other.
func TestNumbersAboveLoseEach(t *testing.T) {
	a, _ := pair(t, wide())
	for n := range uint64(8) {
		sendsBytes(t, a, 0, strings.Repeat(string(rune('a'+n)), 2), n)
	}
	receives(t, a, packet(t, 0, acked(6, 1)), nil)
	sendsFrames(t, a, "P16: 0, 2 and 3 are lost", data(0, 0, "aa"), data(0, 4, "ccdd"))
	came(t, a, 0, 0, nil)
	receives(t, a, packet(t, 1, ackOf(api.Range{Lo: 7, Hi: 8})), nil) // 8: what was sent again
	came(t, a, 0, 8, nil)
	sendsFrames(t, a, "P16: 4 and 5 are lost", data(0, 8, "eeff"))
	receives(t, a, packet(t, 2, acked(9)), nil)
	came(t, a, 0, 16, nil)
	ticks(a, 100)
	sendsNothing(t, a, "P16: all came")
}

// TestNumbersAboveOfAcksAlone: a number is one, whatever the packet holds.
func TestNumbersAboveOfAcksAlone(t *testing.T) {
	a, _ := pair(t, wide())
	sendsBytes(t, a, 0, "abc", 0)
	for n := range uint64(3) {
		sendsAck(t, a, n, n+1)
	}
	receives(t, a, packet(t, 10, acked(2)), nil)
	sendsNothing(t, a, "P16: named is one two above")
	receives(t, a, packet(t, 11, acked(3)), nil)
	sendsFrames(t, a, "P16: named is one three above", data(0, 0, "abc"))
}

// TestAnAckThatNamesBoth: what it names came, however far below the highest.
func TestAnAckThatNamesBoth(t *testing.T) {
	a, _ := pair(t, wide())
	for n := range uint64(9) {
		sendsBytes(t, a, 0, "x", n)
	}
	receives(t, a, packet(t, 0, acked(8, 0)), nil)
	came(t, a, 0, 1, nil)
	sendsFrames(t, a, "P16: 1 to 5 are lost", data(0, 1, "xxxxx"))
	receives(t, a, packet(t, 1, ackOf(api.Range{Lo: 0, Hi: 9})), nil)
	came(t, a, 0, 9, nil)
	ticks(a, 100)
	sendsNothing(t, a, "P16: all came")
}

// TestLossByNumbersLeavesTheWait: it doubles by a Tick alone.
func TestLossByNumbersLeavesTheWait(t *testing.T) {
	a, _ := pair(t, wide())
	for n := range uint64(4) {
		sendsBytes(t, a, 0, "x", n)
	}
	receives(t, a, packet(t, 0, ackOf(api.Range{Lo: 1, Hi: 3})), nil)
	sendsFrames(t, a, "P16: 0 is lost", data(0, 0, "x"))
	quietFor(t, a, 3, "P16: the wait is 4")
	sendsFrames(t, a, "P16: it is as old as the wait", data(0, 0, "x"))
	quietFor(t, a, 7, "P16: the wait is 8")
	sendsFrames(t, a, "P16: it is as old as the wait", data(0, 0, "x"))
}

func TestWaits(t *testing.T) {
	a, _ := pair(t, wide())
	writes(t, a, 0, "abc", 3, nil)
	finishes(t, a, 0, nil)
	for i, wait := range []int{0, 4, 8, 16, 32, 32, 32} {
		if wait > 0 {
			quietFor(t, a, wait-1, "P16: it is on its way")
		}
		if l := sendsFrames(t, a, "P16: it is as old as the wait", fin(0, 0, "abc")); l[0].number != uint64(i) {
			t.Errorf("P10: sent again in packet %d, not %d", l[0].number, i)
		}
	}
}

// TestWhatBringsTheWaitBack: an Ack of a packet that was on its way; of no other.
func TestWhatBringsTheWaitBack(t *testing.T) {
	for losses, wait := range []int{4, 8, 16, 32, 32} {
		flying := uint64(2 + losses)
		for _, c := range []struct {
			name   string
			number uint64
			behind int
		}{
			{"one on its way", flying, 4},
			{"one that was lost", flying - 1, wait}, // (of none lost: it is of Acks alone)
			{"one of Acks alone", 1, wait},
			{"one named already", 0, wait},
		} {
			a, _ := pair(t, wide())
			sendsBytes(t, a, 3, "x", 0)
			sendsAck(t, a, 0, 1)
			receives(t, a, packet(t, 1, acked(0)), nil)
			sendsBytes(t, a, 0, "abc", 2)
			for _, w := range []int{4, 8, 16, 32}[:losses] {
				ticks(a, w)
				sendsFrames(t, a, "P16: it was lost", data(0, 0, "abc"))
			}
			sendsBytes(t, a, 1, "y", flying+1)
			receives(t, a, packet(t, 2, acked(c.number)), nil)
			receives(t, a, packet(t, 3, acked(c.number)), nil) // it says so once
			quietFor(t, a, c.behind-1, fmt.Sprint("P16: a wait of ", wait, ", named is ", c.name))
			if len(sends(t, a, true)) == 0 {
				t.Errorf("P16: a wait of %d, named is %s: nothing is sent again behind %d ticks", wait, c.name, c.behind)
			}
		}
	}
}

// TestAnAckTwice does not bring the wait back a second time, nor anything else.
func TestAnAckTwice(t *testing.T) {
	a, _ := pair(t, wide())
	sendsBytes(t, a, 0, "abc", 0)
	for n := range uint64(3) {
		receives(t, a, packet(t, n, acked(0)), nil)
		came(t, a, 0, 3, nil)
	}
	sendsBytes(t, a, 0, "def", 1)
	ticks(a, 4)
	sendsFrames(t, a, "P16: it was lost", data(0, 3, "def"))
	receives(t, a, packet(t, 3, acked(0)), nil)
	came(t, a, 0, 3, nil)
	quietFor(t, a, 7, "P16: the wait is 8")
	sendsFrames(t, a, "P16: it was lost", data(0, 3, "def"))
	receives(t, a, packet(t, 3, acked(3, 0)), nil) // that packet came already: it is not looked at
	came(t, a, 0, 3, nil)
	receives(t, a, packet(t, 4, acked(1)), nil)
	receives(t, a, packet(t, 5, acked(1)), nil)
	came(t, a, 0, 6, nil)
	ticks(a, 100)
	sendsNothing(t, a, "P16: it came after all")
}

// TestOlderThanTheWait: if that becomes 4, a packet may be older.
func TestOlderThanTheWait(t *testing.T) {
	a, _ := pair(t, wide())
	sendsBytes(t, a, 0, "abc", 0)
	ticks(a, 4)
	sendsFrames(t, a, "P16: it was lost", data(0, 0, "abc"))
	sendsBytes(t, a, 1, "x", 2)
	ticks(a, 6)
	receives(t, a, packet(t, 0, acked(2)), nil)
	sendsNothing(t, a, "P16: at a Tick alone")
	ticks(a, 1)
	sendsFrames(t, a, "P16: seven ticks old, the wait is 4", data(0, 0, "abc"))
	quietFor(t, a, 7, "P16: the wait is 8")
	sendsFrames(t, a, "P16: it was lost", data(0, 0, "abc"))
}

// TestOneOldPacketLosesAll: at a Tick, and the wait doubles once.
func TestOneOldPacketLosesAll(t *testing.T) {
	a, _ := pair(t, wide())
	for n := range uint64(3) {
		sendsBytes(t, a, 0, "abc", n)
		a.Tick()
	}
	sendsBytes(t, a, 1, "xyz", 3)
	a.Tick()
	sendsFrames(t, a, "P16: all are lost", data(0, 0, "abcabcabc"), data(1, 0, "xyz"))
	quietFor(t, a, 7, "P16: the wait is 8")
	sendsFrames(t, a, "P16: all are lost", data(0, 0, "abcabcabc"), data(1, 0, "xyz"))
}

// TestTicksWithNothingOnItsWay leave the wait.
func TestTicksWithNothingOnItsWay(t *testing.T) {
	a, _ := pair(t, wide())
	sendsAck(t, a, 0, 0)
	ticks(a, 100)
	sendsNothing(t, a, "P16: Acks are not on their way")
	sendsBytes(t, a, 0, "abc", 1)
	quietFor(t, a, 3, "P16: the wait is 4")
	sendsFrames(t, a, "P16: it was lost", data(0, 0, "abc"))
	receives(t, a, packet(t, 1, acked(2)), nil)
	ticks(a, 100)
	sendsBytes(t, a, 0, "def", 3)
	quietFor(t, a, 3, "P16: the wait is 4")
	sendsFrames(t, a, "P16: it was lost", data(0, 3, "def"))
}

// TestTicksAreCountedFromWhenItIsSent: not from when it was written.
func TestTicksAreCountedFromWhenItIsSent(t *testing.T) {
	a, _ := pair(t, wide())
	writes(t, a, 0, "abc", 3, nil)
	ticks(a, 50)
	sendsFrames(t, a, "P10: it was written", data(0, 0, "abc"))
	quietFor(t, a, 3, "P16: the wait is 4")
	ticks(a, 3) // it is lost; nobody asked for packets
	sendsFrames(t, a, "P16: it was lost", data(0, 0, "abc"))
	quietFor(t, a, 7, "P16: the wait is 8")
	sendsFrames(t, a, "P16: it was lost", data(0, 0, "abc"))
}

// TestNineTenAndMore packets to be sent: 44 bytes go in each of the first two, 43 in each that follows.
func TestNineTenAndMore(t *testing.T) {
	for _, c := range []struct{ bytes, packets int }{
		{346, 8}, {347, 9}, {389, 9}, {390, 10}, {432, 10}, {433, 10}, {1024, 10},
	} {
		a, b := pair(t, wide())
		text := string(counted(c.bytes))
		writes(t, a, 0, text, c.bytes, nil)
		l := sends(t, a, true)
		if len(l) != c.packets {
			t.Errorf("P10, P16: %d bytes are sent in %d packets, want %d", c.bytes, len(l), c.packets)
		}
		sendsNothing(t, a, "P16: all that may be is on its way")
		for _, s := range l {
			receives(t, b, s.packet, nil)
		}
		carry(t, b, a)
		came(t, a, 0, min(c.bytes, 432), nil)
		rest, _ := joined(t, append(l, sends(t, a, true)...), 0)
		if !strings.HasPrefix(text, rest) || len(rest) < min(c.bytes, 800) {
			t.Errorf("P10: %d bytes: behind an answer %d are sent", c.bytes, len(rest))
		}
	}
}

// TestTenOfAllStreams: they are ten together, and lost ones are not of them.
func TestTenOfAllStreams(t *testing.T) {
	a, _ := pair(t, wide())
	for n := range uint64(9) {
		sendsBytes(t, a, int(n%4), "x", n)
	}
	writes(t, a, 0, "y", 1, nil)
	writes(t, a, 1, "y", 1, nil)
	if l := sends(t, a, true); len(l) != 1 {
		t.Errorf("P10, P16: while nine are on their way %d packets", len(l))
	}
	finishes(t, a, 2, nil)
	givesUp(t, a, 3, 5, nil)
	sendsNothing(t, a, "P16: ten are on their way")
	receives(t, a, packet(t, 0, acked(2)), nil)
	if l := sends(t, a, true); len(l) != 1 {
		t.Errorf("P10, P16: one came: %d packets", len(l))
	}
	sendsNothing(t, a, "P16: ten are on their way")
	ticks(a, 4)
	l := sends(t, a, true)
	ends, given := framesOf(l, api.Data), framesOf(l, api.Reset)
	// Stream 0: xxxy; 1: xxy; 2: x, its first came, and its end; 3 was given up when two bytes had been sent.
	if !reflect.DeepEqual(ends, []api.Frame{data(0, 0, "xxxy"), data(1, 0, "xxy"), fin(2, 1, "x")}) || !reflect.DeepEqual(given, []api.Frame{resetOf(3, 2, 5)}) {
		t.Errorf("P16: sent again are %+v, %+v", ends, given)
	}
}

// TestTenAgainWhenAllAreLost: and no more than ten.
func TestTenAgainWhenAllAreLost(t *testing.T) {
	a, _ := pair(t, wide())
	writes(t, a, 0, string(counted(1024)), 1024, nil)
	first := sends(t, a, true)
	for _, wait := range []int{4, 8, 16} {
		quietFor(t, a, wait-1, "P16: they are on their way")
		again := sends(t, a, true)
		if !reflect.DeepEqual(framesOf(again, api.Data), framesOf(first, api.Data)) || len(again) != 10 {
			t.Errorf("P16: sent again are %+v", framesOf(again, api.Data))
		}
	}
	receives(t, a, packet(t, 0, acked(39)), nil) // 30 to 36 are lost, 37 and 38 on their way: eight may go
	if l := sends(t, a, true); len(l) != 8 || l[0].frames[0].Offset != 0 {
		t.Errorf("P16: two are on their way: %d packets, %+v", len(l), l)
	}
	sendsNothing(t, a, "P16: ten are on their way")
}

// TestAPartCame: what is sent again is the rest, in whatever pieces.
func TestAPartCame(t *testing.T) {
	a, _ := pair(t, wide())
	for n, s := range []string{"ab", "cd", "ef", "gh"} {
		sendsBytes(t, a, 2, s, uint64(n))
	}
	ticks(a, 4)
	receives(t, a, packet(t, 0, acked(1)), nil) // lost by then
	sendsFrames(t, a, "P16: a part came", data(2, 0, "ab"), data(2, 4, "efgh"))
	receives(t, a, packet(t, 1, acked(2)), nil) // lost by then; it is on its way again
	came(t, a, 2, 0, nil)
	ticks(a, 8)
	sendsFrames(t, a, "P16: more of it came", data(2, 0, "ab"), data(2, 6, "gh"))
	receives(t, a, packet(t, 2, acked(0)), nil)
	came(t, a, 2, 6, nil)
	writes(t, a, 2, "ij", 2, nil)
	finishes(t, a, 2, nil)
	sendsFrames(t, a, "P10: what was written since", fin(2, 8, "ij"))
	ticks(a, 16)
	sendsFrames(t, a, "P16: the rest, as it is then", fin(2, 6, "ghij"))
	receives(t, a, packet(t, 3, acked(6)), nil) // what was written since: its end came
	sendsNothing(t, a, "P16: the rest is on its way")
	ticks(a, 32)
	sendsFrames(t, a, "P16: the rest", data(2, 6, "gh"))
	receives(t, a, packet(t, 4, acked(3)), nil)
	came(t, a, 2, 10, nil)
	ticks(a, 100)
	sendsNothing(t, a, "P16: all came")
}

// TestWhatIsOnItsWayIsNotSent: though it was lost in another packet.
func TestWhatIsOnItsWayIsNotSent(t *testing.T) {
	a, _ := pair(t, wide())
	sendsBytes(t, a, 0, "abc", 0)
	ticks(a, 4)
	writes(t, a, 0, "def", 3, nil)
	sendsFrames(t, a, "P16: it was lost", data(0, 0, "abcdef"))
	writes(t, a, 0, "ghi", 3, nil)
	sendsFrames(t, a, "P16: just what is not on its way", data(0, 6, "ghi"))
	receives(t, a, packet(t, 0, acked(0)), nil)
	came(t, a, 0, 3, nil)
	sendsNothing(t, a, "P16: def is on its way")
}

// TestAnEndThatIsLost: alone, or with bytes.
func TestAnEndThatIsLost(t *testing.T) {
	for _, text := range []string{"", "abc"} {
		at := uint64(len(text))
		for _, late := range []bool{false, true} { // it came after all, ahead of being sent again, or behind that
			a, _ := pair(t, wide())
			if writes(t, a, 1, text, len(text), nil); text != "" {
				sends(t, a, true)
				receives(t, a, packet(t, 0, acked(0)), nil)
			}
			number := uint64(min(1, len(text)))
			finishes(t, a, 1, nil)
			sendsFrames(t, a, "P11: an end", fin(1, at, ""))
			quietFor(t, a, 3, "P16: an end is on its way")
			if late {
				sendsFrames(t, a, "P16: an end was lost", fin(1, at, ""))
			}
			receives(t, a, packet(t, 1, acked(number)), nil)
			ticks(a, 100)
			sendsNothing(t, a, "P16: an end came after all")
			came(t, a, 1, len(text), nil)
		}
	}
	a, _ := pair(t, wide())
	writes(t, a, 1, "abc", 3, nil)
	finishes(t, a, 1, nil)
	sendsFrames(t, a, "P11: bytes and an end", fin(1, 0, "abc"))
	ticks(a, 4)
	sendsFrames(t, a, "P16: bytes and an end were lost", fin(1, 0, "abc"))
	receives(t, a, packet(t, 0, acked(1)), nil)
	came(t, a, 1, 3, nil)
	ticks(a, 100)
	sendsNothing(t, a, "P16: bytes and an end came")
}

// TestLastBytesAreSentAgainWithFin: as they are then, which is finished, though the end came without them.
func TestLastBytesAreSentAgainWithFin(t *testing.T) {
	a, _ := pair(t, wide())
	sendsBytes(t, a, 1, "abc", 0)
	finishes(t, a, 1, nil)
	sends(t, a, true)
	receives(t, a, packet(t, 0, acked(1)), nil)
	came(t, a, 1, 0, nil)
	quietFor(t, a, 3, "P16: it is on its way")
	sendsFrames(t, a, "P11: the last bytes again", fin(1, 0, "abc"))
	receives(t, a, packet(t, 1, acked(0)), nil) // late
	came(t, a, 1, 3, nil)
	ticks(a, 100)
	sendsNothing(t, a, "P16: all came after all")
}

// TestAnEndThatIsOnItsWayIsNotSent: also if it was lost in another packet.
func TestAnEndThatIsOnItsWayIsNotSent(t *testing.T) {
	a, _ := pair(t, wide())
	sendsBytes(t, a, 1, "abc", 0)
	ticks(a, 2)
	finishes(t, a, 1, nil)
	sends(t, a, true) // 1: the end
	sendsBytes(t, a, 0, "x", 2)
	sendsBytes(t, a, 0, "x", 3)
	receives(t, a, packet(t, 0, acked(3)), nil)
	sendsFrames(t, a, "P16: 0 was lost", fin(1, 0, "abc")) // in 4
	sendsBytes(t, a, 3, "y", 5)
	receives(t, a, packet(t, 1, acked(5)), nil)
	sendsFrames(t, a, "P16: 1 and 2 were lost; the end of 1 is on its way in 4", data(0, 0, "x"))
	receives(t, a, packet(t, 2, ackOf(api.Range{Lo: 4, Hi: 6})), nil)
	came(t, a, 1, 3, nil)
	ticks(a, 100)
	sendsNothing(t, a, "P16: all came")
}

// TestAcksThatAreTurned: the older one behind the newer one.
func TestAcksThatAreTurned(t *testing.T) {
	a, _ := pair(t, wide())
	for n := range uint64(6) {
		sendsBytes(t, a, 0, "x", n)
	}
	receives(t, a, packet(t, 1, ackOf(api.Range{Lo: 4, Hi: 5})), nil)
	receives(t, a, packet(t, 0, ackOf(api.Range{Lo: 0, Hi: 3})), nil) // 0 to 2 were lost by then
	came(t, a, 0, 6, nil)
	ticks(a, 100)
	sendsNothing(t, a, "P16: all came after all")
}

// TestPacketsThatAreTurned: the last comes first; what comes three below is lost to its sender for a while, and comes once.
func TestPacketsThatAreTurned(t *testing.T) {
	a, b := pair(t, wide())
	writes(t, a, 0, string(counted(400)), 400, nil)
	finishes(t, a, 0, nil)
	l := a.Packets()
	again := 0
	for i := range l {
		receives(t, b, l[len(l)-1-i], nil)
		carry(t, b, a)
		again += carry(t, a, b)
	}
	if again == 0 {
		t.Errorf("P16: none was lost")
	}
	carry(t, b, a)
	came(t, a, 0, 400, nil)
	reads(t, b, 0, 500, string(counted(400)), api.Finished)
	ticks(a, 100)
	sendsNothing(t, a, "P16: all came")
	sendsNothing(t, b, "P11: all is answered")
}

// TestAcksOfWhatWasNotSent close the side, whatever else they name.
func TestAcksOfWhatWasNotSent(t *testing.T) {
	for _, f := range []api.Frame{acked(2), acked(2, 0), ackOf(api.Range{Lo: 0, Hi: 2}), acked(3), acked(top)} {
		a, _ := pair(t, wide())
		sendsBytes(t, a, 0, "abc", 0)
		sendsAck(t, a, 0, 1)
		receives(t, a, packet(t, 1, ackOf(api.Range{Lo: 0, Hi: 1})), nil)
		receives(t, a, packet(t, 2, f), api.ErrAck)
		isClosed(t, a, api.ErrAck)
		ticks(a, 100)
		leaves(t, a, uint64(api.ErrAck))
	}
}

// TestThatItWasGivenUpIsLost: a Reset is on its way, is lost and comes as bytes do.
func TestThatItWasGivenUpIsLost(t *testing.T) {
	a, _ := pair(t, wide())
	givesUp(t, a, 1, 7, nil)
	for _, wait := range []int{4, 8, 16, 32, 32} {
		sendsFrames(t, a, "P16: that it was given up", resetOf(1, 0, 7))
		quietFor(t, a, wait-1, "P16: a Reset is on its way")
	}
	receives(t, a, packet(t, 0, acked(2)), nil)
	ticks(a, 100)
	sendsNothing(t, a, "P16: a Reset came after all")
	a, _ = pair(t, wide())
	givesUp(t, a, 3, 7, nil)
	sendsFrames(t, a, "P16: that it was given up", resetOf(3, 0, 7))
	for n := range uint64(3) {
		sendsBytes(t, a, 0, "x", n+1)
	}
	receives(t, a, packet(t, 0, ackOf(api.Range{Lo: 1, Hi: 2})), nil)
	sendsNothing(t, a, "P16: named is one two above")
	receives(t, a, packet(t, 1, acked(3)), nil)
	sendsFrames(t, a, "P16: named is one three above", resetOf(3, 0, 7))
	receives(t, a, packet(t, 2, acked(4)), nil)
	ticks(a, 100)
	sendsNothing(t, a, "P16: a Reset came")
}
