package sealstream_test

import (
	"fmt"
	"math/rand"
	"reflect"
	"testing"

	"sealstream/api"
	"sealstream/sealstream"
)

// A mirror does to itself what is done to a side, byte by byte as the document says it, and holds the side's answers against its own.
type mirror struct {
	t     *testing.T
	side  *sealstream.Conn
	c     api.Config
	first bool
	why   error       // nil: open
	last  []api.Frame // of a closed side: what it has yet to send

	wrote   [4][]byte
	done    [4]bool
	named   [4]map[int]int // places of bytes that came
	ended   [4]bool        // the end came
	gave    [4]*uint64     // the code with which it was given up
	fell    [4]bool        // that it was came
	sent    []letter       // by number
	tick    int
	wait    int
	reading [4]shelf

	floor  uint64
	came   map[uint64]int
	answer map[uint64]int // those that are to be named
}

// letter is a packet that was sent.
type letter struct {
	frames []api.Frame // but Acks
	tick   int
	state  int
}

const (
	nowhere = iota // Acks alone, or named
	flying
	lost
)

// shelf is a stream that is read.
type shelf struct {
	bytes map[uint64]byte
	read  uint64
	high  uint64
	end   *uint64
	code  *uint64
	over  bool
}

func newMirror(t *testing.T, c api.Config, first bool) *mirror {
	m := &mirror{t: t, side: newSide(t, c, first), c: c, first: first, wait: 4, came: map[uint64]int{}, answer: map[uint64]int{}}
	for k := range 4 {
		m.named[k], m.reading[k].bytes = map[int]int{}, map[uint64]byte{}
	}
	return m
}

func (m *mirror) wrong(promise, text string, args ...any) {
	m.t.Helper()
	m.t.Fatalf(promise+": "+text, args...)
}

func (m *mirror) cameOf(k int) (n int) {
	for m.named[k][n] > 0 {
		n++
	}
	return n
}

// refusal is why a call on a stream is refused.
func (m *mirror) refusal(k int, write bool) error {
	switch {
	case m.why != nil:
		return api.ErrClosed
	case k < 0 || k > 3:
		return api.ErrStream
	case write && (m.done[k] || m.gave[k] != nil):
		return api.ErrState
	}
	return nil
}

func (m *mirror) write(k int, b []byte) {
	n, err := m.side.Write(k, b)
	want, bad := 0, m.refusal(k, true)
	if bad == nil {
		unseen := len(m.wrote[k]) - m.cameOf(k)
		want = min(len(b), m.c.Window-unseen, 4096-len(m.wrote[k]))
		m.wrote[k] = append(m.wrote[k], b[:want]...)
	}
	if n != want || err != bad {
		m.wrong("P9", "Write(%d, %d bytes) = %d, %v, want %d, %v", k, len(b), n, err, want, bad)
	}
}

func (m *mirror) finish(k int) {
	bad := m.refusal(k, true)
	if err := m.side.Finish(k); err != bad {
		m.wrong("P9", "Finish(%d) = %v, want %v", k, err, bad)
	}
	if bad == nil {
		m.done[k] = true
	}
}

func (m *mirror) giveUp(k int, code uint64) {
	bad := m.refusal(k, false)
	if bad == nil && (m.gave[k] != nil || code > top) {
		bad = api.ErrState
	}
	if err := m.side.GiveUp(k, code); err != bad {
		m.wrong("P18", "GiveUp(%d, %d) = %v, want %v", k, code, err, bad)
	}
	if bad == nil {
		m.gave[k] = &code
	}
}

func (m *mirror) askCame(k int) {
	n, err := m.side.Came(k)
	want, bad := 0, m.refusal(k, false)
	if bad == nil {
		want = m.cameOf(k)
	}
	if n != want || err != bad {
		m.wrong("P9", "Came(%d) = %d, %v, want %d, %v", k, n, err, want, bad)
	}
}

func (m *mirror) pass() {
	m.side.Tick()
	m.tick++
	old := false
	for _, l := range m.sent {
		old = old || l.state == flying && m.tick-l.tick >= m.wait
	}
	if !old {
		return
	}
	m.wait = min(2*m.wait, 32)
	for i := range m.sent {
		if m.sent[i].state == flying {
			m.sent[i].state = lost
		}
	}
}

// wanted is what is to be sent of a stream: places of bytes; -1 is its end, -2 that it was given up.
func (m *mirror) wanted(k int) map[int]int {
	w := map[int]int{}
	if m.gave[k] != nil && !m.fell[k] {
		w[-2] = 1
	}
	for i := range m.wrote[k] {
		if m.gave[k] == nil && m.named[k][i] == 0 {
			w[i] = 1
		}
	}
	if m.gave[k] == nil && m.done[k] && !m.ended[k] {
		w[-1] = 1
	}
	for _, l := range m.sent {
		if l.state == flying {
			for _, f := range l.frames {
				carried(k, f, func(i int) { delete(w, i) })
			}
		}
	}
	return w
}

// carried goes through the places that a frame of a stream has.
func carried(k int, f api.Frame, do func(i int)) {
	if f.Stream != k {
		return
	}
	for i := range len(f.Data) {
		do(int(f.Offset) + i)
	}
	if f.Fin {
		do(-1)
	}
	if f.Kind == api.Reset {
		do(-2)
	}
}

func (m *mirror) flying() (n int) {
	for _, l := range m.sent {
		if l.state == flying {
			n++
		}
	}
	return n
}

// send is the side's packets, each of which is looked at.
func (m *mirror) send() [][]byte {
	list := m.side.Packets()
	if m.why != nil {
		m.lastPackets(list)
		return list
	}
	for _, p := range list {
		s := opened(m.t, m.first, p)
		if s.number != uint64(len(m.sent)) || len(p) > m.c.MTU {
			m.wrong("P10", "packet %d of %d bytes, behind %d", s.number, len(p), len(m.sent))
		}
		m.look(s)
	}
	if len(m.answer) > 0 {
		m.wrong("P11", "not named are %v", m.answer)
	}
	if m.flying() > 10 {
		m.wrong("P16", "%d packets are on their way", m.flying())
	}
	for k := range 4 {
		if w := m.wanted(k); m.flying() < 10 && len(w) > 0 {
			m.wrong("P10", "not sent of stream %d are %v", k, w)
		}
	}
	return list
}

func (m *mirror) lastPackets(list [][]byte) {
	if len(list) != len(m.last) {
		m.wrong("P19", "%d packets of a closed side, want %d", len(list), len(m.last))
	}
	for _, p := range list {
		if s := opened(m.t, m.first, p); s.number != uint64(len(m.sent)) || !reflect.DeepEqual(s.frames, m.last) {
			m.wrong("P19", "the last packet is %+v, want %+v, by %v", s, m.last, m.why)
		}
	}
	m.last = nil
}

func (m *mirror) look(s sent) {
	l := letter{tick: m.tick}
	fresh := 0
	for _, f := range s.frames {
		switch f.Kind {
		case api.Ack:
			m.lookAck(f)
		case api.Data, api.Reset:
			m.lookData(f)
			m.lookReset(f)
			w := m.wanted(f.Stream)
			carried(f.Stream, f, func(i int) {
				fresh += w[i]
				if i != -1 && w[i] == 0 {
					m.wrong("P16", "the byte %d of stream %d came, or is on its way", i, f.Stream)
				}
			})
			l.frames, l.state = append(l.frames, f), flying
		default:
			m.wrong("P10", "a frame %+v", f)
		}
	}
	if l.state == flying && fresh == 0 {
		m.wrong("P16", "nothing in %+v is to be sent", s.frames)
	}
	m.sent = append(m.sent, l)
}

func (m *mirror) lookAck(f api.Frame) {
	for _, r := range f.Ranges {
		for n := r.Lo; ; n++ {
			if m.came[n] == 0 || n < m.floor {
				m.wrong("P11", "an Ack of %d, which did not come", n)
			}
			delete(m.answer, n)
			if n == r.Hi {
				break
			}
		}
	}
}

func (m *mirror) lookReset(f api.Frame) {
	if f.Kind != api.Reset {
		return
	}
	end := uint64(0)
	for _, l := range m.sent {
		for _, x := range l.frames {
			if x.Kind == api.Data && x.Stream == f.Stream {
				end = max(end, x.Offset+uint64(len(x.Data)))
			}
		}
	}
	if code := m.gave[f.Stream]; code == nil || *code != f.Code || f.Offset != end {
		m.wrong("P18", "%+v, of a stream given up with %v, sent up to %d", f, code, end)
	}
}

func (m *mirror) lookData(f api.Frame) {
	if f.Kind != api.Data {
		return
	}
	if m.gave[f.Stream] != nil {
		m.wrong("P18", "%+v of a stream that was given up", f)
	}
	all := m.wrote[f.Stream]
	end := int(f.Offset) + len(f.Data)
	if end > len(all) || string(all[f.Offset:end]) != f.Data {
		m.wrong("P11", "%+v is not what was written", f)
	}
	if f.Data == "" && !f.Fin || f.Fin != (m.done[f.Stream] && end == len(all)) {
		m.wrong("P11", "%+v, of a stream of %d bytes, finished: %v", f, len(all), m.done[f.Stream])
	}
}

// deliver hands a packet over; the answer is held against what the mirror makes of it.
func (m *mirror) deliver(p []byte) error {
	bad := m.take(p)
	if err := m.side.Receive(p); fmt.Sprint(err) != fmt.Sprint(bad) {
		m.wrong("P12", "Receive(%x) = %v, want %v", p, err, bad)
	}
	m.askErr()
	return bad
}

func (m *mirror) take(p []byte) error {
	if m.why != nil {
		return api.ErrClosed
	}
	n, b, err := sealstream.Unseal(counting(), !m.first, p)
	if err != nil {
		return api.ErrSeal
	}
	if n < m.floor || m.came[n] > 0 {
		return nil
	}
	l, at := readAll(b)
	if at >= 0 {
		m.shut(api.ErrFrame, uint64(api.ErrFrame))
		return &api.Fault{Err: api.ErrFrame, At: at}
	}
	for _, f := range l {
		s := m.reading[f.Stream]
		if f.Kind == api.Data && s.code == nil && f.Offset+uint64(len(f.Data)) > s.read+uint64(m.c.Window) {
			return api.ErrBusy
		}
	}
	m.remember(n, l)
	for _, f := range l {
		if e := m.frame(f); e != api.OK {
			m.shut(e, uint64(e))
			return e
		}
	}
	return nil
}

func (m *mirror) shut(e api.Errno, code uint64) {
	if m.why = e; e != api.ErrPeer {
		m.last = []api.Frame{closeOf(code)}
	}
}

func (m *mirror) leave(code uint64) {
	var bad error
	switch {
	case m.why != nil:
		bad = api.ErrClosed
	case code > top:
		bad = api.ErrState
	default:
		m.shut(api.ErrClosed, code)
	}
	if err := m.side.Close(code); err != bad {
		m.wrong("P19", "Close(%d) = %v, want %v", code, err, bad)
	}
	m.askErr()
}

func (m *mirror) askErr() {
	if err := m.side.Err(); err != m.why {
		m.wrong("P19", "Err = %v, want %v", err, m.why)
	}
}

// remember: a number came; if there are nine with something between, the lowest goes, and all that it touches.
func (m *mirror) remember(n uint64, l []api.Frame) {
	m.came[n] = 1
	for _, f := range l {
		if f.Kind != api.Ack && f.Kind != api.Padding {
			m.answer[n] = 1
		}
	}
	tops, lowest := 0, uint64(1<<63)
	for x := range m.came {
		if m.came[x+1] == 0 {
			tops++
			lowest = min(lowest, x)
		}
	}
	if tops > 8 {
		m.floor = lowest + 1
		for x := range m.came {
			if x < m.floor {
				delete(m.came, x)
				delete(m.answer, x)
			}
		}
	}
}

func (m *mirror) frame(f api.Frame) api.Errno {
	s := &m.reading[f.Stream]
	end := f.Offset + uint64(len(f.Data))
	ends := f.Kind == api.Reset || f.Kind == api.Data && f.Fin
	switch {
	case f.Kind == api.Close:
		return api.ErrPeer
	case f.Kind == api.Ack:
		return m.ack(f)
	case f.Kind != api.Data && f.Kind != api.Reset:
		return api.OK
	case s.end != nil && (end > *s.end || ends && end != *s.end) || ends && end < s.high:
		return api.ErrFinal
	}
	if ends {
		s.end = &end
	}
	if f.Kind == api.Reset && s.code == nil {
		s.code = &f.Code
	}
	if f.Kind == api.Data {
		s.high = max(s.high, end)
		for i := range len(f.Data) {
			if _, old := s.bytes[f.Offset+uint64(i)]; !old {
				s.bytes[f.Offset+uint64(i)] = f.Data[i]
			}
		}
	}
	return api.OK
}

func (m *mirror) ack(f api.Frame) api.Errno {
	high := f.Ranges[0].Hi
	if high >= uint64(len(m.sent)) {
		return api.ErrAck
	}
	for _, r := range f.Ranges {
		for n := r.Lo; n <= r.Hi; n++ {
			if m.sent[n].state == flying {
				m.wait = 4
			}
			m.sent[n].state = nowhere
			for _, x := range m.sent[n].frames {
				carried(x.Stream, x, func(i int) {
					m.named[x.Stream][i] = 1
					m.ended[x.Stream] = m.ended[x.Stream] || i == -1
					m.fell[x.Stream] = m.fell[x.Stream] || i == -2
				})
			}
		}
	}
	for n := range m.sent {
		if m.sent[n].state == flying && uint64(n)+3 <= high {
			m.sent[n].state = lost
		}
	}
	return api.OK
}

func (m *mirror) read(k, most int) {
	b, state, code, err := m.side.Read(k, most)
	bad := m.refusal(k, false)
	var want []byte
	wantState, wantCode := 0, uint64(0)
	if bad == nil {
		s := &m.reading[k]
		if s.code != nil && !s.over {
			wantState, wantCode = api.Given, *s.code
		} else {
			want = s.next(most)
			if s.over = s.end != nil && s.read == *s.end; s.over {
				wantState = api.Finished
			}
		}
	}
	if string(b) != string(want) || state != wantState || code != wantCode || err != bad || b != nil && len(b) == 0 {
		m.wrong("P15", "Read(%d, %d) = %x, %d, %d, %v, want %x, %d, %d, %v", k, most, b, state, code, err, want, wantState, wantCode, bad)
	}
}

func (s *shelf) next(most int) (b []byte) {
	for len(b) < most && !s.over {
		x, ok := s.bytes[s.read]
		if !ok {
			break
		}
		b = append(b, x)
		s.read++
	}
	return b
}

// TestTwoSides: a network that loses, doubles and turns around, then one that does not.
func TestTwoSides(t *testing.T) {
	for seed := range int64(60) {
		r := rand.New(rand.NewSource(seed))
		c := api.Config{MTU: 64 + r.Intn(237), Window: 16 + r.Intn(1009)}
		if r.Intn(3) == 0 {
			c = api.Config{MTU: 64, Window: 16 + r.Intn(100)}
		}
		run(t, r, newMirror(t, c, true), newMirror(t, c, false))
	}
}

func run(t *testing.T, r *rand.Rand, a, b *mirror) {
	talk(r, a, b, 150)
	settle(t, a, b)
}

func talk(r *rand.Rand, a, b *mirror, rounds int) {
	ways := [2][][]byte{}
	loss := r.Intn(60)
	for range rounds {
		for i, m := range []*mirror{a, b} {
			act(r, m)
			ways[i] = append(ways[i], m.send()...)
			if r.Intn(2) == 0 {
				m.pass()
			}
		}
		for i, m := range []*mirror{b, a} {
			ways[i] = scatter(r, m, ways[i], loss)
		}
	}
}

// TestTwoSidesThatLeave: one or both, in the midst, with what is on its way coming yet.
func TestTwoSidesThatLeave(t *testing.T) {
	for seed := range int64(200) {
		r := rand.New(rand.NewSource(seed))
		c := api.Config{MTU: 64 + r.Intn(237), Window: 16 + r.Intn(200)}
		a, b := newMirror(t, c, true), newMirror(t, c, false)
		talk(r, a, b, r.Intn(40))
		a.leave(top + uint64(r.Intn(2)))
		if r.Intn(3) == 0 {
			b.leave(uint64(r.Intn(100)))
		}
		talk(r, a, b, r.Intn(5))
		a.leave(uint64(r.Intn(100)))
		talk(r, a, b, 10)
		b.leave(uint64(r.Intn(100)))
		talk(r, b, a, 10)
	}
}

// act: a few calls of its user.
func act(r *rand.Rand, m *mirror) {
	for range r.Intn(4) {
		k := r.Intn(4)
		switch r.Intn(9) {
		case 0, 1, 2:
			m.write(k, counted(r.Intn(200)))
		case 3:
			m.write(k, counted(r.Intn(9)))
		case 4:
			switch r.Intn(20) {
			case 0, 1, 2, 3:
				m.finish(k)
			case 4:
				m.giveUp(k, uint64(r.Intn(100)))
			case 5:
				m.giveUp(k, top+uint64(r.Intn(2)))
			}
		case 5:
			m.askCame(k)
		default:
			m.read(k, r.Intn(300)-5)
		}
	}
}

// scatter: of the packets that are underway some come, some twice, some later, some not at all.
func scatter(r *rand.Rand, m *mirror, way [][]byte, loss int) (rest [][]byte) {
	r.Shuffle(len(way), func(i, j int) {
		if r.Intn(3) == 0 {
			way[i], way[j] = way[j], way[i]
		}
	})
	for _, p := range way {
		x := r.Intn(100)
		if x < loss {
			continue
		}
		if x > 90 || x > 80 && m.deliver(p) == nil {
			rest = append(rest, p)
			continue
		}
		m.deliver(p)
	}
	return rest
}

// settle: from now on all packets come: all bytes, ends and that streams were given up do, and then nothing is sent.
func settle(t *testing.T, a, b *mirror) {
	total, bound := 0, 120
	for k := range 4 {
		total += len(a.wrote[k]) + len(b.wrote[k])
	}
	bound += 3*((total+a.c.Window-1)/a.c.Window) + total/16
	quiet := 0
	for tick := 0; quiet < 40; tick++ {
		n := 0
		for _, m := range [][2]*mirror{{a, b}, {b, a}} {
			m[0].pass()
			for _, p := range m[0].send() {
				n++
				m[1].deliver(p)
			}
			for k := range 4 {
				m[1].read(k, 5000)
			}
		}
		if quiet++; n > 0 {
			quiet = 0
		}
		if tick-quiet > bound {
			t.Fatalf("P17: something is sent yet behind %d ticks", tick)
		}
	}
	for _, m := range [][2]*mirror{{a, b}, {b, a}} {
		for k := range 4 {
			m[0].askCame(k)
			s := m[1].reading[k]
			if code := m[0].gave[k]; code != nil {
				if s.code == nil || *s.code != *code {
					t.Errorf("P17: that stream %d was given up was not told", k)
				}
				continue
			}
			if m[0].cameOf(k) != len(m[0].wrote[k]) || s.read != uint64(len(m[0].wrote[k])) || s.over != m[0].done[k] {
				t.Errorf("P17: stream %d: %d bytes, %d came, %d were read, over: %v", k, len(m[0].wrote[k]), m[0].cameOf(k), s.read, s.over)
			}
		}
	}
}

// TestOneSideAndAStranger: whoever has the key may send whatever it likes.
func TestOneSideAndAStranger(t *testing.T) {
	for seed := range int64(1000) {
		r := rand.New(rand.NewSource(seed))
		m := newMirror(t, api.Config{MTU: 64 + r.Intn(237), Window: 16 + r.Intn(60)}, r.Intn(2) == 0)
		for round, closed := 0, 0; round < 80 && closed < 3; round++ {
			if m.why != nil {
				closed++
			}
			act(r, m)
			if r.Intn(3) == 0 {
				m.send()
			}
			if r.Intn(3) == 0 {
				m.pass()
			}
			if r.Intn(200) == 0 {
				m.leave(top - 2 + uint64(r.Intn(5)))
			}
			m.deliver(strange(r, m))
		}
		for k := -1; k < 5; k++ {
			m.read(k, 100)
			m.askCame(k)
			m.write(k, counted(9))
			m.finish(k)
			m.giveUp(k, 9)
		}
		m.leave(uint64(r.Intn(100)))
		m.leave(top + 1)
		m.send()
		m.send()
	}
}

// strange is a packet that is nearly right most of the time.
func strange(r *rand.Rand, m *mirror) []byte {
	var l []api.Frame
	for range 1 + r.Intn(4) {
		l = append(l, strangeFrame(r, m))
	}
	b, err := sealstream.Encode(l)
	if err != nil {
		m.t.Fatalf("Encode(%+v) = %v", l, err)
	}
	if len(b) > 284 {
		b = b[:284]
	}
	if r.Intn(300) == 0 {
		b = b[:r.Intn(len(b)+1)]
	}
	n := uint64(r.Intn(60))
	if r.Intn(4) == 0 {
		n = uint64(r.Intn(9)) << 30
	}
	p := sealstream.Seal(counting(), !m.first, n, b)
	if r.Intn(20) == 0 {
		p[r.Intn(len(p))] ^= 1 << r.Intn(8)
	}
	return p
}

func strangeFrame(r *rand.Rand, m *mirror) api.Frame {
	k := r.Intn(4)
	s := m.reading[k]
	switch x := r.Intn(200); {
	case x < 60 && len(m.sent) > 0:
		hi := r.Intn(len(m.sent))
		lo := max(0, hi-r.Intn(3))
		l := []api.Range{{Lo: uint64(lo), Hi: uint64(hi)}}
		if next := lo - 2 - r.Intn(3); next >= 0 {
			l = append(l, api.Range{Lo: uint64(next), Hi: uint64(next)})
		}
		return ackOf(l...)
	case x == 60:
		return acked(uint64(len(m.sent)))
	case x < 63:
		return resetOf(k, s.high+uint64(r.Intn(3)), uint64(x))
	case x == 63:
		return resetOf(k, uint64(r.Intn(30)), 5)
	case x == 64:
		return closeOf(3)
	case x < 68:
		return fin(k, s.high, "")
	case x == 68 && s.end != nil:
		return fin(k, *s.end, "")
	case x == 69:
		return fin(k, uint64(r.Intn(40)), "")
	case x < 90:
		return api.Frame{Kind: api.Ping - r.Intn(2)}
	}
	b := make([]byte, r.Intn(20))
	r.Read(b)
	at := int(s.read) + r.Intn(m.c.Window) - 10
	if s.end != nil {
		at = min(at, int(*s.end)-len(b))
	}
	return data(k, uint64(max(at, 0)), string(b))
}
