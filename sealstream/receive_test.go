package sealstream_test

import (
	"bytes"
	"strings"
	"testing"

	"sealstream/api"
	"sealstream/sealstream"
)

func small() api.Config { return api.Config{MTU: 64, Window: 20} }

func ping() api.Frame { return api.Frame{Kind: api.Ping} }

func resetOf(k int, offset, code uint64) api.Frame {
	return api.Frame{Kind: api.Reset, Stream: k, Offset: offset, Code: code}
}

func closeOf(code uint64) api.Frame { return api.Frame{Kind: api.Close, Code: code} }

// isOpen: what came turned nothing: no bytes, nothing to answer, no error kept.
func isOpen(t *testing.T, c *sealstream.Conn, why string) {
	t.Helper()
	if c.Err() != nil {
		t.Errorf("%s: the side is closed: %v", why, c.Err())
	}
	for k := range api.MaxStreams {
		reads(t, c, k, 100, "", api.Open)
	}
	sendsNothing(t, c, why)
}

func TestReceiveAsksTheSeal(t *testing.T) {
	a, b := pair(t, small())
	writes(t, a, 0, "abc", 3, nil)
	own := a.Packets()[0]
	receives(t, a, own, api.ErrSeal) // that the side itself sealed
	good := packet(t, 0, data(0, 0, "xyz"))
	for i := range good {
		for bit := range 8 {
			p := bytes.Clone(good)
			p[i] ^= 1 << bit
			receives(t, a, p, api.ErrSeal)
		}
	}
	for n := range good {
		receives(t, a, good[:n], api.ErrSeal)
	}
	receives(t, a, nil, api.ErrSeal)
	receives(t, a, make([]byte, 40), api.ErrSeal)
	receives(t, a, append(bytes.Clone(good), 0), api.ErrSeal)
	receives(t, a, sealstream.Seal(falling(), false, 0, unhex(t, "01")), api.ErrSeal)
	receives(t, a, sealstream.Seal(counting(), false, top+1, unhex(t, "01")), api.ErrSeal)
	receives(t, a, sealstream.Seal(counting(), false, 0, make([]byte, 285)), api.ErrSeal)
	isOpen(t, a, "P12: nothing turns")
	receives(t, a, good, nil)
	reads(t, a, 0, 9, "xyz", api.Open)
	receives(t, b, own, nil)
	reads(t, b, 0, 9, "abc", api.Open)
}

// TestPacketsGreaterThanTheMTU may come: that bound is of what is sent.
func TestPacketsGreaterThanTheMTU(t *testing.T) {
	a, _ := pair(t, api.Config{MTU: 64, Window: 1024})
	text := strings.Repeat("x", 279)
	p := packet(t, top, data(0, 0, text))
	if len(p) != 300 {
		t.Fatalf("the packet has %d bytes", len(p))
	}
	receives(t, a, p, nil)
	reads(t, a, 0, 1000, text, api.Open)
}

func TestPacketsThatComeTwice(t *testing.T) {
	a, _ := pair(t, small())
	receives(t, a, packet(t, 4, data(0, 0, "abc")), nil)
	sends(t, a, true)
	// Whatever is in it: not looked at.
	for _, l := range [][]api.Frame{{data(0, 3, "def")}, {fin(0, 0, "")}, {data(0, 900, "x")}, {acked(77)}, {closeOf(0)}} {
		receives(t, a, packet(t, 4, l...), nil)
	}
	receives(t, a, sealstream.Seal(counting(), false, 4, []byte{0xff}), nil)
	receives(t, a, sealstream.Seal(counting(), false, 4, nil), nil)
	sendsNothing(t, a, "P12: it came already")
	reads(t, a, 0, 9, "abc", api.Open)
}

func TestTheFloor(t *testing.T) {
	a, _ := pair(t, small())
	for i := range uint64(9) { // 10 and 11, 20 and 21, .. 90 and 91
		n := 10 * (i + 1)
		receives(t, a, packet(t, n+1, ping()), nil)
		receives(t, a, packet(t, n, ping()), nil)
	}
	l := framesOf(sends(t, a, true), api.Ack)
	var named []api.Range
	for _, f := range l {
		named = append(named, f.Ranges...)
	}
	if len(named) != 8 || named[7] != (api.Range{Lo: 20, Hi: 21}) {
		t.Errorf("P12: Acks name %+v", named)
	}
	for n := range uint64(12) { // the floor is 12
		receives(t, a, packet(t, n, data(0, 0, "x")), nil)
		receives(t, a, sealstream.Seal(counting(), false, n, []byte{0xff}), nil)
	}
	isOpen(t, a, "P12: below the floor")
	receives(t, a, packet(t, 12, data(0, 0, "y")), nil) // a ninth range: it goes at once, and the floor is 13
	reads(t, a, 0, 9, "y", api.Open)
	for _, f := range framesOf(sends(t, a, true), api.Ack) {
		for _, r := range f.Ranges {
			if r.Lo <= 12 {
				t.Errorf("P11: an Ack names %+v, which is below the floor", r)
			}
		}
	}
	receives(t, a, packet(t, 12, data(0, 1, "z")), nil)
	isOpen(t, a, "P12: below the floor")
	receives(t, a, packet(t, 22, data(0, 1, "z")), nil) // no range more
	receives(t, a, packet(t, 13, data(0, 2, "w")), nil)
	reads(t, a, 0, 9, "zw", api.Open)
}

// TestRangesThatGrowTogether: eight ranges become fewer, and there is room for others.
func TestRangesThatGrowTogether(t *testing.T) {
	a, _ := pair(t, small())
	for n := range uint64(8) {
		receives(t, a, packet(t, 2*n+2, ping()), nil)
	}
	for n := range uint64(7) {
		receives(t, a, packet(t, 2*n+3, ping()), nil)
	}
	receives(t, a, packet(t, 0, data(0, 0, "x")), nil)
	receives(t, a, packet(t, 100, ping()), nil)
	reads(t, a, 0, 9, "x", api.Open)
	l := framesOf(sends(t, a, true), api.Ack)
	if len(l) != 1 || len(l[0].Ranges) != 3 || l[0].Ranges[1] != (api.Range{Lo: 2, Hi: 16}) || l[0].Ranges[2] != (api.Range{}) {
		t.Errorf("P11, P12: Acks name %+v", l)
	}
}

func TestFramesThatAreNoneClose(t *testing.T) {
	for _, c := range []struct {
		bytes string
		at    int
	}{
		{"", 0}, {"ff", 0}, {"01 03", 1}, {"08 00 00 01 61 08", 5}, {"08 00 00 05 6161", 0}, {"01 01 08 04 00 01 61", 2}, {"02 05 01 00 03", 0},
		{"08 00 4100 01 61 ff", 6}, // named ahead of ErrBusy
		{"02 05 00 00 ff", 4},      // and of ErrAck
	} {
		a, _ := pair(t, small())
		writes(t, a, 0, "abc", 3, nil)
		receives(t, a, packet(t, 0, ping()), nil)
		receives(t, a, sealstream.Seal(counting(), false, 1, unhex(t, c.bytes)), &api.Fault{Err: api.ErrFrame, At: c.at})
		isClosed(t, a, api.ErrFrame)
		leaves(t, a, 5)
	}
}

// leaves: the last packet of a closed side, once.
func leaves(t *testing.T, c *sealstream.Conn, code uint64) {
	t.Helper()
	l := sends(t, c, true)
	if len(l) != 1 || len(l[0].frames) != 1 || l[0].frames[0].Kind != api.Close || l[0].frames[0].Code != code {
		t.Errorf("P19: a side that is closed sends %+v, want Close %d", l, code)
	}
	sendsNothing(t, c, "P19: once more")
	ticks(c, 50)
	sendsNothing(t, c, "P19: once more, later")
}

func TestBusy(t *testing.T) {
	for name, l := range map[string][]api.Frame{
		"a byte behind the window": {data(0, 0, strings.Repeat("x", 21))},
		"bytes behind a hole":      {data(1, 20, "x")},
		"the end":                  {fin(2, 21, "")},
		"nothing, far away":        {data(3, top, "")},
		"the second frame":         {data(0, 0, "abc"), data(0, 3, strings.Repeat("x", 18))},
		"another stream":           {data(0, 0, "abc"), fin(1, 0, ""), data(2, 15, "123456")},
		"behind its end":           {fin(0, 0, "abc"), data(0, 15, "123456")},
		"beside a wrong Ack":       {acked(9), data(0, 15, "123456")},
		"ahead of a wrong Ack":     {data(0, 15, "123456"), acked(9)},
		"behind a Close":           {closeOf(0), data(0, 15, "123456")},
		"behind its Reset":         {resetOf(0, 100, 1), data(0, 15, "123456")},
		"beside a Ping":            {ping(), data(0, top-2, "xy")},
	} {
		a, _ := pair(t, small())
		receives(t, a, packet(t, 0, l...), api.ErrBusy)
		receives(t, a, packet(t, 0, l...), api.ErrBusy)
		isOpen(t, a, "P12: "+name)
		receives(t, a, packet(t, 0, data(0, 0, "x")), nil) // its number may come yet
		reads(t, a, 0, 9, "x", api.Open)
	}
}

// TestTheWindowGoesOn: by what is read, not by what came.
func TestTheWindowGoesOn(t *testing.T) {
	a, _ := pair(t, small())
	receives(t, a, packet(t, 0, data(0, 0, strings.Repeat("x", 20))), nil) // just at the window
	receives(t, a, packet(t, 1, data(0, 20, "y")), api.ErrBusy)
	receives(t, a, packet(t, 2, data(0, 20, "")), nil)
	reads(t, a, 0, 7, strings.Repeat("x", 7), api.Open)
	receives(t, a, packet(t, 3, data(0, 20, "12345678")), api.ErrBusy)
	receives(t, a, packet(t, 4, fin(0, 20, "1234567")), nil)
	receives(t, a, packet(t, 5, data(1, 10, "0123456789")), nil)
	receives(t, a, packet(t, 6, data(1, 11, "0123456789")), api.ErrBusy)
	reads(t, a, 0, 100, strings.Repeat("x", 13)+"1234567", api.Finished)
	receives(t, a, packet(t, 7, data(0, 48, "")), api.ErrBusy)
	receives(t, a, packet(t, 8, data(0, 47, "")), api.ErrFinal)
	isClosed(t, a, api.ErrFinal)
}

// TestWindowOfTheDocument is its example.
func TestWindowOfTheDocument(t *testing.T) {
	a, b := pair(t, small())
	writes(t, a, 0, string(counted(100)), 20, nil)
	carry(t, a, b)
	carry(t, b, a)
	writes(t, a, 0, string(counted(100)[20:]), 20, nil)
	p := a.Packets()[0]
	for n := range 20 {
		receives(t, b, p, api.ErrBusy)
		sendsNothing(t, b, "P12: it did not come")
		reads(t, b, 0, 1, string([]byte{byte(n)}), api.Open)
	}
	receives(t, b, p, nil)
	carry(t, b, a)
	came(t, a, 0, 40, nil)
	reads(t, b, 0, 50, string(counted(40)[20:]), api.Open)
}

// TestOneStreamThatIsNotRead holds up no other, nor what is answered.
func TestOneStreamThatIsNotRead(t *testing.T) {
	a, b := pair(t, small())
	text := strings.Repeat("0123456789", 10)
	var wrote, back int
	got, told := "", ""
	for range 200 {
		a.Write(0, []byte(text)) // never read
		n, _ := a.Write(1, []byte(text[wrote:]))
		m, _ := b.Write(2, []byte(text[back:]))
		wrote, back = wrote+n, back+m
		for _, p := range a.Packets() {
			b.Receive(p)
		}
		for _, p := range b.Packets() {
			a.Receive(p)
		}
		s, _, _, _ := b.Read(1, 100)
		r, _, _, _ := a.Read(2, 100)
		got, told = got+string(s), told+string(r)
		a.Tick()
		b.Tick()
	}
	came(t, a, 1, 100, nil)
	came(t, b, 2, 100, nil)
	if got != text || told != text {
		t.Errorf("P12: %d and %d bytes came", len(got), len(told))
	}
}

// TestErrorsClose: the first error of a packet's frames.
func TestErrorsClose(t *testing.T) {
	for _, c := range []struct {
		name   string
		frames []api.Frame
		want   api.Errno
	}{
		{"behind the end", []api.Frame{fin(0, 0, "abc"), data(0, 3, "d")}, api.ErrFinal},
		{"over the end", []api.Frame{fin(0, 0, "abc"), data(0, 2, "cd")}, api.ErrFinal},
		{"behind the end, no bytes", []api.Frame{fin(0, 0, "abc"), data(0, 4, "")}, api.ErrFinal},
		{"the end goes back", []api.Frame{fin(0, 0, "abc"), fin(0, 0, "ab")}, api.ErrFinal},
		{"the end goes back, no bytes", []api.Frame{fin(0, 5, ""), fin(0, 4, "")}, api.ErrFinal},
		{"the end goes on", []api.Frame{fin(0, 0, "abc"), fin(0, 0, "abcd")}, api.ErrFinal},
		{"an end ahead of bytes", []api.Frame{data(0, 0, "abc"), fin(0, 0, "ab")}, api.ErrFinal},
		{"an end ahead of bytes behind a hole", []api.Frame{data(0, 10, "a"), fin(0, 0, "ab")}, api.ErrFinal},
		{"an end ahead of a frame without bytes", []api.Frame{data(0, 10, ""), fin(0, 9, "")}, api.ErrFinal},
		{"a packet that was not sent", []api.Frame{acked(1)}, api.ErrAck},
		{"one far away", []api.Frame{acked(top)}, api.ErrAck},
		{"one in a range", []api.Frame{ackOf(api.Range{Lo: 0, Hi: 1})}, api.ErrAck},
		{"one of two ranges", []api.Frame{acked(2, 0)}, api.ErrAck},
		{"a reset ahead of bytes", []api.Frame{data(0, 0, "abc"), resetOf(0, 2, 7)}, api.ErrFinal},
		{"a reset that moves the end", []api.Frame{fin(0, 0, "abc"), resetOf(0, 4, 7)}, api.ErrFinal},
		{"resets that differ", []api.Frame{resetOf(0, 4, 7), resetOf(0, 5, 7)}, api.ErrFinal},
		{"bytes behind a reset", []api.Frame{resetOf(0, 4, 7), data(0, 4, "a")}, api.ErrFinal},
		{"an end that a reset moves", []api.Frame{resetOf(0, 4, 7), fin(0, 3, "")}, api.ErrFinal},
		{"close", []api.Frame{data(0, 0, "abc"), closeOf(3), acked(5)}, api.ErrPeer},
		{"the first of two", []api.Frame{acked(7), closeOf(0)}, api.ErrAck},
		{"the first of two others", []api.Frame{fin(0, 1, ""), fin(0, 2, ""), acked(7)}, api.ErrFinal},
	} {
		for _, apart := range []bool{false, true} { // in one packet, or in several
			a, _ := pair(t, small())
			writes(t, a, 3, "sent", 4, nil)
			sends(t, a, true) // the number 0
			if l := c.frames; apart && len(l) == 2 && c.name != "the first of two" {
				receives(t, a, packet(t, 6, l[0]), nil)
				receives(t, a, packet(t, 7, l[1]), c.want)
			} else {
				receives(t, a, packet(t, 7, l...), c.want)
			}
			if a.Err() != c.want {
				t.Errorf("P12 to P14: %s: Err = %v", c.name, a.Err())
			}
			isClosed(t, a, c.want)
			if c.want == api.ErrPeer {
				sendsNothing(t, a, "P19: the other side closed")
			} else {
				leaves(t, a, uint64(c.want))
			}
		}
	}
}

// TestFramesThatAreTaken: these are no errors.
func TestFramesThatAreTaken(t *testing.T) {
	for name, l := range map[string][]api.Frame{
		"an end twice":                   {fin(0, 0, "abc"), fin(0, 0, "abc")},
		"an end twice, without bytes":    {fin(0, 0, "abc"), fin(0, 3, "")},
		"bytes ahead of the end":         {fin(0, 0, "abc"), data(0, 0, "abc"), data(0, 1, "b"), data(0, 3, "")},
		"an end at the highest":          {data(0, 3, ""), fin(0, 0, "abc")},
		"an end behind the highest":      {data(0, 0, "a"), fin(0, 1, "bc")},
		"streams end by themselves":      {fin(1, 0, ""), data(2, 0, "xyz"), fin(0, 0, "abc")},
		"pings and paddings":             {ping(), {Kind: api.Padding}, fin(0, 0, "abc"), ping()},
		"an Ack of what was sent":        {acked(0), fin(0, 0, "abc"), acked(0)},
		"bytes of a stream with an end":  {fin(0, 3, ""), data(0, 2, "c"), data(0, 0, "a"), data(0, 1, "b")},
		"a reset of another stream":      {resetOf(1, 0, 5), fin(0, 0, "abc")},
		"bytes behind another's reset":   {resetOf(1, 19, 5), data(1, 0, "zzz"), fin(0, 0, "abc")},
		"a reset of another, twice":      {resetOf(1, 9, 5), resetOf(1, 9, 6), fin(0, 0, "abc")},
		"a reset at another's known end": {fin(1, 9, ""), resetOf(1, 9, 6), fin(1, 9, ""), fin(0, 0, "abc")},
	} {
		a, _ := pair(t, small())
		writes(t, a, 3, "sent", 4, nil)
		sends(t, a, true)
		receives(t, a, packet(t, 7, l...), nil)
		if a.Err() != nil {
			t.Errorf("P12 to P14: %s: %v", name, a.Err())
		}
		reads(t, a, 0, 9, "abc", api.Finished)
	}
}

// TestAcksOfAllThatWasSent: also of packets of Acks alone, and again.
func TestAcksOfAllThatWasSent(t *testing.T) {
	a, _ := pair(t, small())
	receives(t, a, packet(t, 0, acked(0)), api.ErrAck)
	a, _ = pair(t, small())
	receives(t, a, packet(t, 0, ping()), nil)
	sends(t, a, true)
	receives(t, a, packet(t, 1, acked(0)), nil)
	receives(t, a, packet(t, 2, acked(0)), nil)
	receives(t, a, packet(t, 3, acked(1)), api.ErrAck)
}
