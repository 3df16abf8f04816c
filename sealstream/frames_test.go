package sealstream_test

import (
	"bytes"
	"encoding/hex"
	"errors"
	"math/rand"
	"reflect"
	"strings"
	"testing"

	"sealstream/api"
	"sealstream/sealstream"
)

const top = 1<<62 - 1

func unhex(t *testing.T, s string) []byte {
	t.Helper()
	b, err := hex.DecodeString(strings.ReplaceAll(s, " ", ""))
	if err != nil {
		t.Fatal(err)
	}
	return b
}

func ackOf(l ...api.Range) api.Frame { return api.Frame{Kind: api.Ack, Ranges: l} }

// written: frames, and their bytes by P3.
var written = []struct {
	name   string
	frames []api.Frame
	bytes  string
}{
	{"padding", []api.Frame{{Kind: api.Padding}}, "00"},
	{"ping", []api.Frame{{Kind: api.Ping}}, "01"},
	{"one range", []api.Frame{ackOf(api.Range{Lo: 3, Hi: 7})}, "02 07 00 04"},
	{"one number", []api.Frame{ackOf(api.Range{})}, "02 00 00 00"},
	{"three ranges", []api.Frame{ackOf(api.Range{Lo: 90, Hi: 100}, api.Range{Lo: 80, Hi: 88}, api.Range{Lo: 0, Hi: 10})}, "02 4064 02 0a 00 08 4044 0a"},
	{"one number between", []api.Frame{ackOf(api.Range{Lo: 2, Hi: 2}, api.Range{})}, "02 02 01 00 00 00"},
	{"all numbers", []api.Frame{ackOf(api.Range{Lo: 0, Hi: top})}, "02 ffffffffffffffff 00 ffffffffffffffff"},
	{"widest gap", []api.Frame{ackOf(api.Range{Lo: top, Hi: top}, api.Range{})}, "02 ffffffffffffffff 01 00 fffffffffffffffd 00"},
	{"reset", []api.Frame{{Kind: api.Reset, Stream: 3, Code: 20, Offset: 300}}, "04 03 14 412c"},
	{"reset at the top", []api.Frame{{Kind: api.Reset, Code: top, Offset: top}}, "04 00 ffffffffffffffff ffffffffffffffff"},
	{"data", []api.Frame{{Kind: api.Data, Stream: 2, Offset: 64, Data: "xyz"}}, "08 02 4040 03 78797a"},
	{"last data", []api.Frame{{Kind: api.Data, Stream: 1, Offset: 5, Data: "ab", Fin: true}}, "09 01 05 02 6162"},
	{"no data", []api.Frame{{Kind: api.Data}}, "08 00 00 00"},
	{"just an end", []api.Frame{{Kind: api.Data, Stream: 3, Offset: top, Fin: true}}, "09 03 ffffffffffffffff 00"},
	{"data up to the top", []api.Frame{{Kind: api.Data, Offset: top - 2, Data: "ab"}}, "08 00 fffffffffffffffd 02 6162"},
	{"long data", []api.Frame{{Kind: api.Data, Data: strings.Repeat("z", 64)}}, "08 00 00 4040" + strings.Repeat("7a", 64)},
	{"bytes of all kinds", []api.Frame{{Kind: api.Data, Data: "\x00\xff\x80"}}, "08 00 00 03 00ff80"},
	{"close", []api.Frame{{Kind: api.Close, Code: 9}}, "1c 09"},
	{"several", []api.Frame{
		{Kind: api.Close, Code: 64}, {Kind: api.Padding}, {Kind: api.Data, Data: "a"}, ackOf(api.Range{Lo: 1, Hi: 1}), {Kind: api.Ping},
	}, "1c 4040 00 08 00 00 01 61 02 01 00 00 01"},
}

func TestFramesAsBytes(t *testing.T) {
	for _, c := range written {
		want := unhex(t, c.bytes)
		b, err := sealstream.Encode(c.frames)
		if err != nil || !bytes.Equal(b, want) {
			t.Errorf("P3, P4: %s: Encode = %x, %v, want %x", c.name, b, err, want)
		}
		l, err := sealstream.Decode(want)
		if err != nil || !reflect.DeepEqual(l, c.frames) {
			t.Errorf("P3, P5: %s: Decode = %+v, %v, want %+v", c.name, l, err, c.frames)
		}
	}
}

func TestNumbersAreWrittenAsShortAsCanBe(t *testing.T) {
	for _, c := range []struct {
		n    uint64
		want string
	}{
		{0, "00"}, {1, "01"}, {1<<6 - 1, "3f"},
		{1 << 6, "4040"}, {1<<6 + 1, "4041"}, {0x1234, "5234"}, {1<<14 - 1, "7fff"},
		{1 << 14, "80004000"}, {1<<14 + 1, "80004001"}, {0x12345678, "92345678"}, {1<<30 - 1, "bfffffff"},
		{1 << 30, "c000000040000000"}, {1<<30 + 1, "c000000040000001"}, {0x123456789abcdef0, "d23456789abcdef0"}, {top, "ffffffffffffffff"},
	} {
		b, err := sealstream.Encode([]api.Frame{{Kind: api.Close, Code: c.n}})
		if err != nil || hex.EncodeToString(b) != "1c"+c.want {
			t.Errorf("P3: Code %d = %x, %v, want 1c%s", c.n, b, err, c.want)
		}
	}
}

func TestNumbersAreReadInWhateverLength(t *testing.T) {
	for _, c := range []struct {
		bytes string
		want  api.Frame
	}{
		{"1c 05", api.Frame{Kind: api.Close, Code: 5}},
		{"1c 4005", api.Frame{Kind: api.Close, Code: 5}},
		{"1c 80000005", api.Frame{Kind: api.Close, Code: 5}},
		{"1c c000000000000005", api.Frame{Kind: api.Close, Code: 5}},
		{"1c 80003fff", api.Frame{Kind: api.Close, Code: 1<<14 - 1}},
		{"1c c00000003fffffff", api.Frame{Kind: api.Close, Code: 1<<30 - 1}},
		{"08 4003 80000000 c000000000000002 6162", api.Frame{Kind: api.Data, Stream: 3, Data: "ab"}},
		{"04 80000001 c000000000000002 4003", api.Frame{Kind: api.Reset, Stream: 1, Code: 2, Offset: 3}},
		{"02 4005 80000001 c000000000000000 4003 4000", ackOf(api.Range{Lo: 5, Hi: 5}, api.Range{})},
	} {
		l, err := sealstream.Decode(unhex(t, c.bytes))
		if err != nil || !reflect.DeepEqual(l, []api.Frame{c.want}) {
			t.Errorf("P3: Decode(%s) = %+v, %v, want %+v", c.bytes, l, err, c.want)
		}
	}
}

// unwritable: frames that Encode refuses by P4.
var unwritable = map[string]api.Frame{
	"kind 0":                     {},
	"kind 7":                     {Kind: 7},
	"kind -1":                    {Kind: -1},
	"offset of data":             {Kind: api.Data, Offset: top + 1},
	"offset of a ping":           {Kind: api.Ping, Offset: top + 1},
	"greatest offset":            {Kind: api.Reset, Offset: 1<<64 - 1},
	"code of a close":            {Kind: api.Close, Code: top + 1},
	"code of a padding":          {Kind: api.Padding, Code: 1<<64 - 1},
	"code of data":               {Kind: api.Data, Code: top + 1, Data: "a"},
	"stream 4":                   {Kind: api.Data, Stream: 4, Data: "a"},
	"stream -1":                  {Kind: api.Reset, Stream: -1},
	"stream of a close":          {Kind: api.Close, Stream: 4},
	"stream of an ack":           {Kind: api.Ack, Stream: -1, Ranges: []api.Range{{}}},
	"stream of a great number":   {Kind: api.Ping, Stream: 1 << 40},
	"no ranges":                  ackOf(),
	"empty ranges":               {Kind: api.Ack, Ranges: []api.Range{}},
	"lo above hi":                ackOf(api.Range{Lo: 5, Hi: 4}),
	"hi above the top":           ackOf(api.Range{Lo: 5, Hi: top + 1}),
	"greatest range":             ackOf(api.Range{Lo: 1<<64 - 1, Hi: 1<<64 - 1}),
	"second lo above hi":         ackOf(api.Range{Lo: 9, Hi: 9}, api.Range{Lo: 5, Hi: 4}),
	"touching":                   ackOf(api.Range{Lo: 5, Hi: 6}, api.Range{Lo: 1, Hi: 4}),
	"one inside the other":       ackOf(api.Range{Lo: 1, Hi: 9}, api.Range{Lo: 3, Hi: 4}),
	"one twice":                  ackOf(api.Range{Lo: 1, Hi: 9}, api.Range{Lo: 1, Hi: 9}),
	"wrong order":                ackOf(api.Range{Lo: 1, Hi: 2}, api.Range{Lo: 5, Hi: 6}),
	"third touching":             ackOf(api.Range{Lo: 9, Hi: 9}, api.Range{Lo: 5, Hi: 6}, api.Range{Lo: 1, Hi: 4}),
	"second behind what goes on": ackOf(api.Range{Lo: 9, Hi: 9}, api.Range{Lo: 0, Hi: 1<<64 - 1}),
	"data behind the top":        {Kind: api.Data, Offset: top, Data: "a"},
	"last data behind the top":   {Kind: api.Data, Offset: top - 1, Data: "ab", Fin: true},
}

func TestEncodeRefuses(t *testing.T) {
	ping := api.Frame{Kind: api.Ping}
	refused := func(name string, l []api.Frame) {
		// A Fault is not asked for here: the error comes as it is.
		if b, err := sealstream.Encode(l); b != nil || err != api.ErrFrame {
			t.Errorf("P4: %s: Encode = %x, %v", name, b, err)
		}
	}
	refused("nil", nil)
	refused("no frames", []api.Frame{})
	for name, f := range unwritable {
		refused(name, []api.Frame{f})
		refused(name+", behind others", []api.Frame{ping, ping, f})
		refused(name+", ahead of others", []api.Frame{f, ping})
	}
}

func TestEncodeWritesWhatTheKindNames(t *testing.T) {
	bad := []api.Range{{Lo: 9, Hi: 1 << 63}}
	full := func(kind int) []api.Frame {
		return []api.Frame{{Kind: kind, Stream: 1, Offset: 2, Code: 3, Fin: true, Data: "d", Ranges: bad}}
	}
	ackFull := full(api.Ack)
	ackFull[0].Ranges = []api.Range{{Lo: 4, Hi: 5}}
	beyond := full(api.Reset)
	beyond[0].Offset = top
	for _, c := range []struct {
		l    []api.Frame
		want string
	}{
		{full(api.Padding), "00"},
		{full(api.Ping), "01"},
		{ackFull, "02050001"},
		{full(api.Reset), "04010302"},
		{beyond, "040103ffffffffffffffff"},
		{full(api.Data), "0901020164"},
		{full(api.Close), "1c03"},
	} {
		if b, err := sealstream.Encode(c.l); err != nil || hex.EncodeToString(b) != c.want {
			t.Errorf("P4: Encode(%+v) = %x, %v, want %s", c.l, b, err, c.want)
		}
	}
}

func faultAt(t *testing.T, b []byte, at int) {
	t.Helper()
	l, err := sealstream.Decode(b)
	f, ok := err.(*api.Fault)
	if l != nil || !ok || f.Err != api.ErrFrame || f.At != at || !errors.Is(err, api.ErrFrame) {
		t.Errorf("P5: Decode(%x) = %+v, %v, want ErrFrame at %d", b, l, err, at)
	}
}

func TestDecodeRefuses(t *testing.T) {
	faultAt(t, nil, 0)
	faultAt(t, []byte{}, 0)
	for _, c := range []struct {
		bytes string
		at    int
	}{
		{"01 00 ff", 2},
		{"08 00 00 02 6162 08", 6},
		{"02 05 01 00 03", 0},
		{"01 02 05 00 06", 1},                                    // Hi less Lo above Hi
		{"02 05 01 00 04 00", 0},                                 // a range that would lie below 0
		{"02 05 01 00 03 01", 0},                                 // one that would begin below 0
		{"02 05 01 05 00 00", 0},                                 // nothing is left below the first
		{"02 05 01 04 00 00", 0},                                 // no room for a number between
		{"02 05 01 00 ffffffffffffffff 00", 0},                   // a gap that is too wide by far
		{"02 05 ffffffffffffffff 00 00 00", 0},                   // ranges without end, but no bytes
		{"00 02 00 00 01", 1},                                    // Lo below 0
		{"08 04 00 01 61", 0},                                    // no such stream
		{"00 09 ffffffffffffffff 00 00", 1},                      // nor this one
		{"08 c000000100000000 00 01 61", 0},                      // nor one whose lowest bits are a stream's
		{"04 04 00 00", 0},                                       // nor given up
		{"08 00 ffffffffffffffff 01 61", 0},                      // behind 2^62 - 1
		{"00 00 09 03 fffffffffffffffe 02 6162", 2},              // likewise, with Fin
		{"08 00 00 ffffffffffffffff 61", 0},                      // more bytes than there are
		{"08 00 ffffffffffffffff ffffffffffffffff", 0},           // likewise, and behind
		{"01 08 00 00 c000000080000000 61", 1},                   // as many as make an int of 32 bits wrap
		{"1c 01 1c", 2},                                          // a code that is missing
		{"1c 40", 0}, {"1c 800000", 0}, {"1c c0000000000000", 0}, // numbers that are cut off
		{"01 40", 1}, // a first byte is not a number
		{"01 4001", 1},
	} {
		faultAt(t, unhex(t, c.bytes), c.at)
	}
}

func TestDecodeRefusesFirstBytesThatAreNone(t *testing.T) {
	known := []byte{0x00, 0x01, 0x02, 0x04, 0x08, 0x09, 0x1c}
	for x := range 256 {
		if bytes.IndexByte(known, byte(x)) >= 0 {
			continue
		}
		faultAt(t, []byte{byte(x)}, 0)
		faultAt(t, append([]byte{1, 0, byte(x)}, make([]byte, 40)...), 2)
	}
}

func TestDecodeRefusesFramesThatAreCutOff(t *testing.T) {
	for _, c := range written {
		if len(c.frames) > 1 {
			continue
		}
		whole := unhex(t, c.bytes)
		for n := 1; n < len(whole); n++ {
			faultAt(t, whole[:n], 0)
			faultAt(t, append([]byte{1, 1, 1}, whole[:n]...), 3)
		}
	}
}

func TestDecodeTellsTheFirstOfSeveralFaults(t *testing.T) {
	faultAt(t, unhex(t, "00 03 ff 08"), 1)
	faultAt(t, unhex(t, "0403050a 1c05 08040000 ff"), 6)
}

// readNumber, readRanges, readFrame and readAll read as the document says it, without the program: ok is false where they cannot.
func readNumber(b []byte) (n uint64, rest []byte, ok bool) {
	if len(b) == 0 {
		return 0, nil, false
	}
	length := []int{1, 2, 4, 8}[b[0]/64]
	if len(b) < length {
		return 0, nil, false
	}
	n = uint64(b[0] % 64)
	for _, x := range b[1:length] {
		n = n*256 + uint64(x)
	}
	return n, b[length:], true
}

func readNumbers(b []byte, to ...*uint64) (rest []byte, ok bool) {
	for _, p := range to {
		if *p, b, ok = readNumber(b); !ok {
			return nil, false
		}
	}
	return b, true
}

func readRanges(b []byte) (l []api.Range, rest []byte, ok bool) {
	var hi, more, length, gap uint64
	if b, ok = readNumbers(b, &hi, &more, &length); !ok || length > hi {
		return nil, nil, false
	}
	l = append(l, api.Range{Lo: hi - length, Hi: hi})
	for ; more > 0; more-- {
		lo := l[len(l)-1].Lo
		if b, ok = readNumbers(b, &gap, &length); !ok || gap+2+length > lo {
			return nil, nil, false
		}
		l = append(l, api.Range{Lo: lo - gap - 2 - length, Hi: lo - gap - 2})
	}
	return l, b, true
}

func readFrame(b []byte) (f api.Frame, rest []byte, ok bool) {
	var stream, length uint64
	first := b[0]
	b = b[1:]
	switch first {
	case 0x00, 0x01:
		return api.Frame{Kind: api.Padding + int(first)}, b, true
	case 0x02:
		l, b, ok := readRanges(b)
		return api.Frame{Kind: api.Ack, Ranges: l}, b, ok
	case 0x04:
		f.Kind = api.Reset
		b, ok = readNumbers(b, &stream, &f.Code, &f.Offset)
	case 0x08, 0x09:
		f.Kind, f.Fin = api.Data, first == 0x09
		b, ok = readNumbers(b, &stream, &f.Offset, &length)
		if !ok || length > uint64(len(b)) || f.Offset+length > top {
			return f, nil, false
		}
		f.Data, b = string(b[:length]), b[length:]
	case 0x1c:
		f.Kind = api.Close
		b, ok = readNumbers(b, &f.Code)
	}
	f.Stream = int(stream)
	return f, b, ok && stream < 4
}

func readAll(b []byte) (l []api.Frame, at int) {
	if len(b) == 0 {
		return nil, 0
	}
	for rest := b; len(rest) > 0; {
		f, next, ok := readFrame(rest)
		if !ok {
			return nil, len(b) - len(rest)
		}
		l, rest = append(l, f), next
	}
	return l, -1
}

func checkDecode(t *testing.T, b []byte) {
	t.Helper()
	own := bytes.Clone(b)
	want, at := readAll(b)
	if at >= 0 {
		faultAt(t, own, at)
	} else if l, err := sealstream.Decode(own); err != nil || !reflect.DeepEqual(l, want) {
		t.Errorf("P5: Decode(%x) = %+v, %v, want %+v", b, l, err, want)
	}
	if !bytes.Equal(own, b) {
		t.Errorf("P2: Decode wrote into its bytes: %x, were %x", own, b)
	}
}

func FuzzDecode(f *testing.F) {
	for _, c := range written {
		b, _ := hex.DecodeString(strings.ReplaceAll(c.bytes, " ", ""))
		f.Add(b)
	}
	f.Fuzz(checkDecode)
}

func someNumber(r *rand.Rand) uint64 {
	n := r.Uint64() >> (2 + r.Intn(62))
	return min(n+uint64(r.Intn(3)), top)
}

func someRanges(r *rand.Rand) (l []api.Range) {
	lo := someNumber(r) + 2
	for range 1 + r.Intn(12) {
		hi := lo - 2 - min(uint64(r.Intn(100)), lo-2)
		at := hi - min(uint64(r.Intn(100)), hi)
		l = append(l, api.Range{Lo: at, Hi: hi})
		if lo = at; lo < 2 {
			break
		}
	}
	return l
}

func someFrame(r *rand.Rand) api.Frame {
	switch kind := 1 + r.Intn(6); kind {
	case api.Ack:
		return ackOf(someRanges(r)...)
	case api.Reset:
		return api.Frame{Kind: kind, Stream: r.Intn(4), Code: someNumber(r), Offset: someNumber(r)}
	case api.Data:
		data := make([]byte, r.Intn(100))
		r.Read(data)
		return api.Frame{Kind: kind, Stream: r.Intn(4), Offset: min(someNumber(r), top-100), Fin: r.Intn(2) == 0, Data: string(data)}
	case api.Close:
		return api.Frame{Kind: kind, Code: someNumber(r)}
	default:
		return api.Frame{Kind: kind}
	}
}

func someFrames(r *rand.Rand) (l []api.Frame) {
	for range 1 + r.Intn(6) {
		l = append(l, someFrame(r))
	}
	return l
}

func TestFramesThereAndBack(t *testing.T) {
	r := rand.New(rand.NewSource(1))
	for range 3000 {
		l := someFrames(r)
		b, err := sealstream.Encode(l)
		if err != nil {
			t.Fatalf("P4: Encode(%+v): %v", l, err)
		}
		back, err := sealstream.Decode(b)
		if err != nil || !reflect.DeepEqual(back, l) {
			t.Fatalf("P5: Decode(%x) = %+v, %v, want %+v", b, back, err, l)
		}
		b[r.Intn(len(b))] ^= 1 << r.Intn(8)
		checkDecode(t, b)
		checkDecode(t, b[:r.Intn(len(b)+1)])
	}
}

func TestEncodeOnlyReads(t *testing.T) {
	for _, c := range written {
		own := copyOf(c.frames)
		if _, err := sealstream.Encode(own); err != nil || !reflect.DeepEqual(own, c.frames) {
			t.Errorf("P2: %s: Encode wrote into its frames: %+v, %v", c.name, own, err)
		}
	}
}

func copyOf(l []api.Frame) []api.Frame {
	own := append([]api.Frame(nil), l...)
	for i := range own {
		own[i].Ranges = append([]api.Range(nil), own[i].Ranges...)
	}
	return own
}

func TestDecodeKeepsNothing(t *testing.T) {
	b := unhex(t, "08 00 00 03 616263 02 05 01 00 03 00 02 05 01 00 03 00")
	want, _ := readAll(b)
	l, err := sealstream.Decode(b)
	if err != nil {
		t.Fatal(err)
	}
	for i := range b {
		b[i] = '!'
	}
	if !reflect.DeepEqual(l, want) {
		t.Errorf("P2: Decode kept its bytes: %+v", l)
	}
	_ = append(l[1].Ranges, api.Range{Lo: 99, Hi: 99})
	l[1].Ranges[0] = api.Range{Lo: 77, Hi: 77}
	if !reflect.DeepEqual(l[2], want[2]) {
		t.Errorf("P2: two frames share their ranges: %+v", l)
	}
}
