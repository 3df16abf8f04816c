package sealstream_test

import (
	"fmt"
	"math/rand"
	"slices"
	"strings"
	"testing"

	"sealstream/api"
	"sealstream/sealstream"
)

// talker has a side, writes its streams as there is room, and reads all that comes.
type talker struct {
	t     *testing.T
	side  *sealstream.Conn
	text  [4]string // what is to be written
	wrote [4]int
	ends  [4]bool // it is finished behind its text
	over  [4]bool // it was
	given [4]bool
	got   [4]string
	state [4]int
	code  [4]uint64
}

func (x *talker) write() {
	for k, s := range x.text {
		if x.given[k] || x.over[k] {
			continue
		}
		n, err := x.side.Write(k, []byte(s[x.wrote[k]:]))
		if err != nil {
			x.t.Fatalf("P9: Write(%d) = %v", k, err)
		}
		if x.wrote[k] += n; x.wrote[k] == len(s) && x.ends[k] {
			finishes(x.t, x.side, k, nil)
			x.over[k] = true
		}
	}
}

func (x *talker) giveUp(k int) {
	givesUp(x.t, x.side, k, uint64(100+k), nil)
	x.given[k] = true
}

func (x *talker) read() {
	for k := range x.got {
		b, state, code, err := x.side.Read(k, 5000)
		if err != nil {
			x.t.Fatalf("P15: Read(%d) = %v", k, err)
		}
		x.got[k], x.state[k], x.code[k] = x.got[k]+string(b), state, code
	}
}

func (x *talker) take(l [][]byte) {
	for _, p := range l {
		if err := x.side.Receive(p); err != nil {
			x.t.Fatalf("P12, P17: Receive = %v", err)
		}
	}
	x.read()
}

// talkers are two, with so many bytes for each stream; each second one ends.
func talkers(t *testing.T, c api.Config, bytes int) (a, b *talker) {
	l := []*talker{{}, {}}
	for i, x := range l {
		x.t, x.side = t, newSide(t, c, i == 0)
		for k := range x.text {
			x.text[k] = strings.Repeat(fmt.Sprint(i, k, "abcdefghijklm"), bytes/15+1)[:bytes]
			x.ends[k] = (i+k)%2 == 0
		}
	}
	return l[0], l[1]
}

// bound is how many ticks P17 has.
func bound(a, b *talker, window int) int {
	total := 0
	for k := range 4 {
		total += a.wrote[k] + b.wrote[k]
	}
	return 120 + 3*((total+window-1)/window) + total/16
}

// tick is one tick of a fair network; how many packets there were.
type tick func(a, b *talker) int

// inTurn: what b sends answers what came of a.
func inTurn(a, b *talker) int {
	l := a.side.Packets()
	b.take(l)
	back := b.side.Packets()
	a.take(back)
	return len(l) + len(back)
}

// atOnce: both send, then it comes.
func atOnce(a, b *talker) int {
	l, back := a.side.Packets(), b.side.Packets()
	a.take(back)
	b.take(l)
	return len(l) + len(back)
}

// turned: the last one comes first, and each twice.
func turned(a, b *talker) int {
	l, back := a.side.Packets(), b.side.Packets()
	for _, x := range []*[][]byte{&l, &back} {
		slices.Reverse(*x)
		*x = append(*x, *x...)
	}
	a.take(back)
	b.take(l)
	return len(l) + len(back)
}

// overAndOver: until neither has anything to send.
func overAndOver(a, b *talker) (n int) {
	for more := 1; more > 0; n += more {
		more = inTurn(a, b)
		a.write()
		b.write()
	}
	return n
}

func fairTicks() map[string]tick {
	return map[string]tick{"in turn": inTurn, "at once": atOnce, "turned": turned, "over and over": overAndOver}
}

// comesThrough: from now on the network is fair, and P17 holds.
func comesThrough(t *testing.T, a, b *talker, window int, each tick) {
	t.Helper()
	last, ticks := 0, 0
	for ; ticks < last+200; ticks++ {
		a.write()
		b.write()
		a.side.Tick()
		b.side.Tick()
		if each(a, b) > 0 {
			last = ticks + 1
		}
		if most := bound(a, b, window); last > most {
			t.Fatalf("P17: something is sent behind %d ticks, more than %d", last, most)
		}
	}
	for _, x := range [][2]*talker{{a, b}, {b, a}} {
		for k := range 4 {
			told(t, x[0], x[1], k)
		}
	}
}

// told: what x wrote came to y, and x knows.
func told(t *testing.T, x, y *talker, k int) {
	t.Helper()
	all := y.got[k] == x.text[k]
	if x.given[k] {
		if all && x.over[k] && y.state[k] == api.Finished { // it had been read ahead of that
			return
		}
		if y.state[k] != api.Given || y.code[k] != uint64(100+k) {
			t.Errorf("P17: stream %d was given up: its reader has state %d, code %d", k, y.state[k], y.code[k])
		}
		return
	}
	state := api.Open
	if x.ends[k] {
		state = api.Finished
	}
	if x.wrote[k] != len(x.text[k]) || !all || y.state[k] != state || y.code[k] != 0 {
		t.Errorf("P17: stream %d of %d bytes: %d came, right: %v, state %d, want %d", k, x.wrote[k], len(y.got[k]), all, y.state[k], state)
	}
	came(t, x.side, k, x.wrote[k], nil)
}

// TestAllComesThrough: behind so many ticks in which nothing came, or one way alone.
func TestAllComesThrough(t *testing.T) {
	for name, each := range fairTicks() {
		for _, c := range []struct{ ticks, mtu, window, bytes int }{
			{0, 64, 16, 0}, {0, 64, 16, 1}, {3, 64, 16, 100}, {4, 100, 50, 300}, {5, 300, 1024, 4096},
			{27, 64, 17, 40}, {28, 64, 1024, 1024}, {29, 300, 16, 16}, {59, 64, 16, 15}, {60, 64, 100, 3000}, {61, 77, 500, 500}, {92, 64, 1024, 4096}, {300, 200, 333, 1000},
		} {
			for way := range 3 {
				a, b := talkers(t, api.Config{MTU: c.mtu, Window: c.window}, c.bytes)
				for range c.ticks {
					a.write()
					b.write()
					a.side.Tick()
					b.side.Tick()
					l, back := a.side.Packets(), b.side.Packets()
					if way == 1 {
						b.take(l)
					}
					if way == 2 {
						a.take(back)
					}
				}
				if way == 0 && len(b.got[0]) > 0 {
					t.Fatalf("%s: something came", name)
				}
				comesThrough(t, a, b, c.window, each)
			}
		}
	}
}

// TestAllComesThroughThatWasGivenUp: at once, or when some of it was sent, or all, or all came.
func TestAllComesThroughThatWasGivenUp(t *testing.T) {
	for name, each := range fairTicks() {
		for _, ticks := range []int{0, 1, 5, 70} {
			for when := range 4 {
				a, b := talkers(t, wide(), 600)
				b.giveUp(0)
				for i := range ticks {
					if i == when {
						a.giveUp(1)
						a.giveUp(3)
					}
					a.write()
					a.side.Tick()
					b.side.Tick()
					a.side.Packets()
					b.side.Packets()
				}
				if !a.given[2] {
					a.giveUp(2)
				}
				comesThrough(t, a, b, 1024, each)
				if b.state[2] != api.Given {
					t.Errorf("P17: %s: it was not told", name)
				}
			}
		}
	}
}

// TestGivenUpBehindItsEnd: the reader has said Finished, and stays there; then nothing more is sent.
func TestGivenUpBehindItsEnd(t *testing.T) {
	a, b := talkers(t, wide(), 100)
	comesThrough(t, a, b, 1024, inTurn)
	givesUp(t, a.side, 0, 5, nil) // finished, and read
	givesUp(t, a.side, 1, 6, nil) // open
	for range 200 {
		a.side.Tick()
		b.side.Tick()
		inTurn(a, b)
	}
	sendsNothing(t, a.side, "P17: all was told")
	sendsNothing(t, b.side, "P17: all was told")
	reads(t, b.side, 0, 9, "", api.Finished)
	readsGiven(t, b.side, 1, 6)
	came(t, a.side, 0, 100, nil)
	came(t, a.side, 1, 100, nil)
}

// TestAllComesThroughABadNetwork: it loses, doubles, keeps for later and turns around; what it kept may come yet when it is fair.
func TestAllComesThroughABadNetwork(t *testing.T) {
	for seed := range int64(120) {
		r := rand.New(rand.NewSource(seed))
		c := api.Config{MTU: 64 + r.Intn(237), Window: 16 + r.Intn(300)}
		a, b := talkers(t, c, r.Intn(1500))
		var kept [2][][]byte
		for range r.Intn(120) {
			for i, x := range []*talker{a, b} {
				x.write()
				x.side.Tick()
				kept[i] = append(kept[i], x.side.Packets()...)
				if k := r.Intn(400); k < 4 && !x.given[k] {
					x.giveUp(k)
				}
			}
			for i, x := range []*talker{b, a} {
				r.Shuffle(len(kept[i]), func(j, k int) { kept[i][j], kept[i][k] = kept[i][k], kept[i][j] })
				for range len(kept[i]) / 2 {
					if r.Intn(3) > 0 {
						x.side.Receive(kept[i][0]) // ErrBusy, if too much was not read
					}
					if r.Intn(4) > 0 {
						kept[i] = kept[i][1:]
					}
				}
				if r.Intn(3) == 0 {
					x.read()
				}
			}
		}
		for i, x := range []*talker{b, a} {
			x.read()
			for _, p := range kept[i] {
				x.side.Receive(p)
			}
			x.read()
		}
		comesThrough(t, a, b, c.Window, []tick{inTurn, atOnce, turned, overAndOver}[seed%4])
	}
}
