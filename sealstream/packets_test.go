package sealstream_test

import (
	"reflect"
	"strings"
	"testing"

	"sealstream/api"
	"sealstream/sealstream"
)

func ticks(c *sealstream.Conn, n int) {
	for range n {
		c.Tick()
	}
}

// joined is a stream's bytes as frames carry them, and whether the last says that it is: each must go on where the one ahead ends.
func joined(t *testing.T, l []sent, k int) (string, bool) {
	t.Helper()
	s, end := "", false
	for _, f := range framesOf(l, api.Data) {
		if f.Stream != k {
			continue
		}
		if f.Offset != uint64(len(s)) || end {
			t.Errorf("P11: stream %d: a frame at %d, behind %d bytes, %v", k, f.Offset, len(s), end)
		}
		s, end = s+f.Data, f.Fin
	}
	return s, end
}

func TestPacketsOfAllSizes(t *testing.T) {
	for mtu := 64; mtu <= 300; mtu += 4 {
		a, _ := pair(t, api.Config{MTU: mtu, Window: 1024})
		text := string(counted(400))
		writes(t, a, 1, text, 400, nil)
		writes(t, a, 3, text[:9], 9, nil)
		finishes(t, a, 3, nil)
		l := sends(t, a, true)
		for i, s := range l {
			if s.number != uint64(i) || len(s.packet) > mtu {
				t.Errorf("P10: packet %d of %d bytes is the %dth, MTU %d", s.number, len(s.packet), i, mtu)
			}
		}
		if most := (400+9)/(mtu-16-7) + 2; len(l) > most {
			t.Errorf("P10: MTU %d: %d packets, %d would do", mtu, len(l), most)
		}
		if len(l) < 10 {
			one, open := joined(t, l, 1)
			three, end := joined(t, l, 3)
			if one != text || open || three != text[:9] || !end {
				t.Errorf("P11: MTU %d: sent are %d bytes, %v, %q, %v", mtu, len(one), open, three, end)
			}
		}
		if len(l) == 10 {
			one, _ := joined(t, l, 1)
			if !strings.HasPrefix(text, one) || len(one) < 400 && len(l[9].packet) != mtu {
				t.Errorf("P11: MTU %d: sent are %d bytes", mtu, len(one))
			}
		}
		sendsNothing(t, a, "P16: all is on its way")
	}
}

func TestPacketsAreSealedByTheirSide(t *testing.T) {
	a, b := pair(t, api.Config{MTU: 64, Window: 20})
	for i, c := range []*sealstream.Conn{a, b} {
		writes(t, c, 0, "abc", 3, nil)
		l := c.Packets()
		if want := sealed(counting(), byte(i), 0, unhex(t, "08 00 00 03 616263")); len(l) != 1 || string(l[0]) != string(want) {
			t.Errorf("P10: side %d sends %x, want %x", i, l, want)
		}
	}
}

func TestTenPacketsAreOnTheirWay(t *testing.T) {
	a, _ := pair(t, api.Config{MTU: 64, Window: 1024})
	for k := range api.MaxStreams {
		writes(t, a, k, string(counted(1024)), 1024, nil)
	}
	l := sends(t, a, true)
	if len(l) != 10 || l[9].number != 9 {
		t.Fatalf("P10: %d packets", len(l))
	}
	sendsNothing(t, a, "P16: ten are on their way")
	receives(t, a, packet(t, 0, acked(1)), nil)
	if l = sends(t, a, true); len(l) != 1 || l[0].number != 10 {
		t.Errorf("P10: one came: %+v", l)
	}
	sendsNothing(t, a, "P16: ten are on their way")
	receives(t, a, packet(t, 1, ackOf(api.Range{Lo: 0, Hi: 10})), nil)
	if l = sends(t, a, true); len(l) != 10 || l[0].number != 11 {
		t.Errorf("P10: all came: %d packets", len(l))
	}
	// Acks are not on their way, and are sent even so.
	receives(t, a, packet(t, 2, api.Frame{Kind: api.Ping}), nil)
	if l = sends(t, a, true); len(l) != 1 || len(l[0].frames) != 1 || l[0].number != 21 {
		t.Errorf("P11: a Ping while ten are on their way: %+v", l)
	}
	sendsNothing(t, a, "P16: ten are on their way")
}

// TestSmallWritesGoAtOnce: up to ten packets, then what is left waits.
func TestSmallWritesGoAtOnce(t *testing.T) {
	a, b := pair(t, api.Config{MTU: 64, Window: 100})
	var all []sent
	for i := range 14 {
		writes(t, a, 2, string(rune('a'+i)), 1, nil)
		l := sends(t, a, true)
		if (len(l) == 1) != (i < 10) {
			t.Errorf("P10: behind write %d: %d packets", i, len(l))
		}
		all = append(all, l...)
	}
	for _, s := range all {
		receives(t, b, s.packet, nil)
	}
	carry(t, b, a)
	carry(t, a, b)
	reads(t, b, 2, 100, "abcdefghijklmn", api.Open)
}

func TestFinIsOnTheLastBytesAlone(t *testing.T) {
	a, _ := pair(t, api.Config{MTU: 64, Window: 200})
	writes(t, a, 0, string(counted(150)), 150, nil)
	finishes(t, a, 0, nil)
	l := framesOf(sends(t, a, true), api.Data)
	for i, f := range l {
		if f.Fin != (i == len(l)-1) || f.Fin != (f.Offset+uint64(len(f.Data)) == 150) || f.Data == "" {
			t.Errorf("P11: frame %d of %d: %+v", i, len(l), f)
		}
	}
	sendsNothing(t, a, "P16: the end is on its way")
}

func TestAnEndWithoutBytes(t *testing.T) {
	a, b := pair(t, api.Config{MTU: 64, Window: 200})
	finishes(t, a, 3, nil)
	if l := framesOf(sends(t, a, true), api.Data); !reflect.DeepEqual(l, []api.Frame{fin(3, 0, "")}) {
		t.Errorf("P11: the end of an empty stream: %+v", l)
	}
	writes(t, a, 1, "abc", 3, nil)
	carry(t, a, b)
	finishes(t, a, 1, nil)
	l := sends(t, a, true)
	if f := framesOf(l, api.Data); !reflect.DeepEqual(f, []api.Frame{fin(1, 3, "")}) {
		t.Errorf("P11: an end behind bytes that are on their way: %+v", f)
	}
	reads(t, b, 1, 9, "abc", api.Open)
	receives(t, b, l[0].packet, nil)
	reads(t, b, 1, 9, "", api.Finished)
}

func TestAcksNameWhatCame(t *testing.T) {
	a, _ := pair(t, api.Config{MTU: 64, Window: 100})
	acks := func(want ...api.Range) {
		t.Helper()
		l := sends(t, a, true)
		if len(l) != 1 || !reflect.DeepEqual(l[0].frames, []api.Frame{ackOf(want...)}) {
			t.Errorf("P11: sent is %+v, want an Ack of %+v", l, want)
		}
		sendsNothing(t, a, "P11: it is answered")
	}
	receives(t, a, packet(t, 5, data(0, 0, "a")), nil)
	acks(api.Range{Lo: 5, Hi: 5})
	receives(t, a, packet(t, 6, api.Frame{Kind: api.Ping}), nil)
	receives(t, a, packet(t, 9, fin(1, 0, "")), nil)
	acks(api.Range{Lo: 9, Hi: 9}, api.Range{Lo: 5, Hi: 6})
	receives(t, a, packet(t, 10, api.Frame{Kind: api.Padding}, api.Frame{Kind: api.Padding}), nil)
	sendsNothing(t, a, "P11: Padding alone")
	writes(t, a, 0, "b", 1, nil)
	number := sends(t, a, true)[0].number
	receives(t, a, packet(t, 11, acked(number), api.Frame{Kind: api.Padding}), nil)
	sendsNothing(t, a, "P11: Ack and Padding alone")
	receives(t, a, packet(t, 9, fin(1, 0, "")), nil)
	sendsNothing(t, a, "P11, P12: it came already")
	receives(t, a, packet(t, 0, acked(number), api.Frame{Kind: api.Reset, Stream: 2}), nil)
	acks(api.Range{Lo: 9, Hi: 11}, api.Range{Lo: 5, Hi: 6}, api.Range{Lo: 0, Hi: 0})
	receives(t, a, packet(t, 7, api.Frame{Kind: api.Padding}, api.Frame{Kind: api.Ping}), nil)
	acks(api.Range{Lo: 9, Hi: 11}, api.Range{Lo: 5, Hi: 7}, api.Range{Lo: 0, Hi: 0})
}

// TestAcksOfGreatNumbers: they fit in packets of 64 bytes, one behind the other.
func TestAcksOfGreatNumbers(t *testing.T) {
	a, _ := pair(t, api.Config{MTU: 64, Window: 100})
	want := map[uint64]int{}
	for i := range uint64(8) {
		n := top - i<<50
		want[n] = 1
		receives(t, a, packet(t, n, api.Frame{Kind: api.Ping}), nil)
	}
	l := sends(t, a, true)
	got := map[uint64]int{}
	for i, s := range l {
		if len(s.packet) > 64 || s.number != uint64(i) {
			t.Errorf("P10: packet %d of %d bytes", s.number, len(s.packet))
		}
	}
	for _, f := range framesOf(l, api.Ack) {
		for _, r := range f.Ranges {
			if r.Lo != r.Hi {
				t.Errorf("P11: an Ack of %+v", r)
			}
			got[r.Lo]++
		}
	}
	if !reflect.DeepEqual(got, want) {
		t.Errorf("P11: named are %v, want %v", got, want)
	}
	sendsNothing(t, a, "P11: all is answered")
}

// TestPacketsAreTheCallers: what is done to them is not to be seen in what is sent again.
func TestPacketsAreTheCallers(t *testing.T) {
	a, b := pair(t, api.Config{MTU: 64, Window: 100})
	writes(t, a, 0, "abcdef", 6, nil)
	for _, p := range a.Packets() {
		for i := range p {
			p[i] = '!'
		}
		_ = append(p, "!!!!"...)
	}
	ticks(a, 4)
	carry(t, a, b)
	reads(t, b, 0, 9, "abcdef", api.Open)
}
