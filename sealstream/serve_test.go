package sealstream_test

import (
	"math"
	"math/rand"
	"reflect"
	"strings"
	"testing"
	"time"

	"sealstream/api"
	"sealstream/plain"
	"sealstream/sealstream"
)

// answer takes the next one; there is one.
func answer(t *testing.T, answers <-chan api.Answer) api.Answer {
	t.Helper()
	select {
	case a, ok := <-answers:
		if !ok {
			t.Fatalf("P20: the answers are at their end")
		}
		return a
	case <-time.After(20 * time.Second):
		t.Fatalf("P20: no answer comes")
	}
	return api.Answer{}
}

// ends: no more answers.
func ends(t *testing.T, answers <-chan api.Answer) {
	t.Helper()
	select {
	case a, ok := <-answers:
		if ok {
			t.Errorf("P20: behind the last command an answer %+v", a)
		}
	case <-time.After(20 * time.Second):
		t.Fatalf("P20: the answers do not end")
	}
}

// asker has a side that is served.
type asker struct {
	t        *testing.T
	commands chan api.Command
	answers  <-chan api.Answer
}

func served(t *testing.T, c *sealstream.Conn) asker {
	t.Helper()
	in := make(chan api.Command)
	out := sealstream.Serve(c, in)
	if out == nil {
		t.Fatalf("P20: no answers")
	}
	return asker{t, in, out}
}

func (x asker) ask(q api.Command) api.Answer {
	x.t.Helper()
	select {
	case x.commands <- q:
	case <-time.After(20 * time.Second):
		x.t.Fatalf("P20: nobody takes the command %+v", q)
	}
	return answer(x.t, x.answers)
}

func (x asker) wants(q api.Command, want api.Answer) {
	x.t.Helper()
	if got := x.ask(q); !reflect.DeepEqual(got, want) {
		x.t.Errorf("P20: %+v is answered by %+v, want %+v", q, got, want)
	}
}

func (x asker) stops() {
	x.t.Helper()
	close(x.commands)
	ends(x.t, x.answers)
}

// call is what a command names, called.
func call(c *sealstream.Conn, q api.Command) (a api.Answer) {
	switch q.Op {
	case api.Write:
		a.N, a.Err = c.Write(q.Stream, []byte(q.Data))
	case api.Finish:
		a.Err = c.Finish(q.Stream)
	case api.GiveUp:
		a.Err = c.GiveUp(q.Stream, q.Code)
	case api.Tick:
		c.Tick()
	case api.Packets:
		for _, p := range c.Packets() {
			a.Packets = append(a.Packets, string(p))
		}
	case api.Receive:
		a.Err = c.Receive([]byte(q.Data))
	case api.Read:
		var b []byte
		b, a.N, a.Code, a.Err = c.Read(q.Stream, q.N)
		a.Data = string(b)
	case api.Leave:
		a.Err = c.Close(q.Code)
	case api.Came:
		a.N, a.Err = c.Came(q.Stream)
	}
	return a
}

// TestCommandsAndTheirAnswers: each kind, and the fields that its answer has.
func TestCommandsAndTheirAnswers(t *testing.T) {
	a, b := pair(t, small())
	x := served(t, a)
	x.wants(api.Command{Op: api.Write, Stream: 1, Data: "hello, other side of it"}, api.Answer{N: 20})
	x.wants(api.Command{Op: api.Write, Stream: 1, Data: "more"}, api.Answer{})
	x.wants(api.Command{Op: api.Write, Stream: 4, Data: "x"}, api.Answer{Err: api.ErrStream})
	x.wants(api.Command{Op: api.Came, Stream: 1}, api.Answer{})
	x.wants(api.Command{Op: api.Came, Stream: -1}, api.Answer{Err: api.ErrStream})
	x.wants(api.Command{Op: api.Finish, Stream: 1}, api.Answer{})
	x.wants(api.Command{Op: api.Finish, Stream: 1}, api.Answer{Err: api.ErrState})
	x.wants(api.Command{Op: api.GiveUp, Stream: 2, Code: top + 1}, api.Answer{Err: api.ErrState})
	x.wants(api.Command{Op: api.GiveUp, Stream: 2, Code: top}, api.Answer{})
	x.wants(api.Command{Op: api.Tick}, api.Answer{})
	l := x.ask(api.Command{Op: api.Packets})
	if len(l.Packets) != 2 || !reflect.DeepEqual(l, api.Answer{Packets: l.Packets}) {
		t.Fatalf("P20: Packets is answered by %+v", l)
	}
	x.wants(api.Command{Op: api.Packets}, api.Answer{})
	for _, p := range l.Packets {
		receives(t, b, []byte(p), nil)
	}
	reads(t, b, 1, 99, "hello, other side of", api.Finished)
	readsGiven(t, b, 2, top)
	writes(t, b, 3, "back", 4, nil)
	givesUp(t, b, 0, 66, nil)
	for _, p := range b.Packets() {
		x.wants(api.Command{Op: api.Receive, Data: string(p)}, api.Answer{})
	}
	x.wants(api.Command{Op: api.Came, Stream: 1}, api.Answer{N: 20})
	x.wants(api.Command{Op: api.Read, Stream: 3, N: 3}, api.Answer{Data: "bac"})
	x.wants(api.Command{Op: api.Read, Stream: 3, N: -1}, api.Answer{})
	finishes(t, b, 3, nil)
	for _, p := range b.Packets() {
		x.wants(api.Command{Op: api.Receive, Data: string(p)}, api.Answer{})
	}
	x.wants(api.Command{Op: api.Read, Stream: 3, N: 3}, api.Answer{Data: "k", N: api.Finished})
	x.wants(api.Command{Op: api.Read, Stream: 0, N: 3}, api.Answer{N: api.Given, Code: 66})
	x.wants(api.Command{Op: api.Read, Stream: 4, N: 3}, api.Answer{Err: api.ErrStream})
	x.wants(api.Command{Op: api.Receive, Data: "forged"}, api.Answer{Err: api.ErrSeal})
	x.wants(api.Command{Op: api.Leave, Code: top + 1}, api.Answer{Err: api.ErrState})
	x.wants(api.Command{Op: api.Leave, Code: 7}, api.Answer{})
	x.wants(api.Command{Op: api.Leave, Code: 7}, api.Answer{Err: api.ErrClosed})
	last := x.ask(api.Command{Op: api.Packets})
	if len(last.Packets) != 1 || last.Err != nil {
		t.Fatalf("P19, P20: Packets of a closed side is answered by %+v", last)
	}
	x.wants(api.Command{Op: api.Packets}, api.Answer{})
	x.stops()
	isClosed(t, a, api.ErrClosed)
	receives(t, b, []byte(last.Packets[0]), api.ErrPeer)
}

// TestAFaultIsAnswered with its place; a side that is closed answers on.
func TestAFaultIsAnswered(t *testing.T) {
	a, _ := pair(t, small())
	x := served(t, a)
	bad := sealstream.Seal(counting(), false, 0, []byte{1, 0, 0xff})
	x.wants(api.Command{Op: api.Receive, Data: string(bad)}, api.Answer{Err: &api.Fault{Err: api.ErrFrame, At: 2}})
	for op := range 12 {
		want := api.Answer{Err: api.ErrClosed}
		switch op {
		case 0, api.Tick, 10, 11:
			want = api.Answer{}
		case api.Packets:
			continue
		}
		x.wants(api.Command{Op: op, Stream: 9, N: 3, Code: top + 1, Data: "x"}, want)
	}
	x.stops()
	isClosed(t, a, api.ErrFrame)
	leaves(t, a, 5)
}

// TestWhatACommandDoesNotName is not looked at.
func TestWhatACommandDoesNotName(t *testing.T) {
	names := func(op int) (stream, n, code, data bool) {
		switch op {
		case api.Write:
			return true, false, false, true
		case api.Finish, api.Came:
			return true, false, false, false
		case api.GiveUp:
			return true, false, true, false
		case api.Receive:
			return false, false, false, true
		case api.Read:
			return true, true, false, false
		case api.Leave:
			return false, false, true, false
		}
		return false, false, false, false
	}
	for op := -1; op < 12; op++ {
		bare := api.Command{Op: op, Stream: 1, N: 2, Code: 3, Data: string(packet(t, 1, ping()))}
		full := bare
		stream, n, code, data := names(op)
		if !stream {
			bare.Stream, full.Stream = 0, -7
		}
		if !n {
			bare.N, full.N = 0, math.MinInt
		}
		if !code {
			bare.Code, full.Code = 0, math.MaxUint64
		}
		if !data {
			bare.Data, full.Data = "", strings.Repeat("x", 500)
		}
		var got [2]api.Answer
		var then [2][][]byte
		for i, q := range []api.Command{bare, full} {
			a, _ := pair(t, small())
			writes(t, a, 0, "abc", 3, nil)
			receives(t, a, packet(t, 0, fin(1, 0, "xyz")), nil)
			x := served(t, a)
			got[i] = x.ask(q)
			x.stops()
			then[i] = a.Packets()
		}
		if !reflect.DeepEqual(got[0], got[1]) || !reflect.DeepEqual(then[0], then[1]) || got[0].Err != nil {
			t.Errorf("P20: %+v is answered by %+v, %+v by %+v", bare, got[0], full, got[1])
		}
	}
}

// TestCommandsOfNoSuchName are nothing, and are answered.
func TestCommandsOfNoSuchName(t *testing.T) {
	a, _ := pair(t, small())
	writes(t, a, 0, "abc", 3, nil)
	x := served(t, a)
	for _, op := range []int{0, -1, 10, 11, 99, 256 + api.Leave, -api.Write, math.MaxInt, math.MinInt} {
		x.wants(api.Command{Op: op, Stream: 1, N: 5, Code: 5, Data: "abc"}, api.Answer{})
	}
	x.stops()
	sendsFrames(t, a, "P20: they are nothing", data(0, 0, "abc"))
	reads(t, a, 1, 5, "", api.Open)
}

// TestServeOfNoCommands: a channel that is closed at once; the side goes on.
func TestServeOfNoCommands(t *testing.T) {
	a, _ := pair(t, small())
	writes(t, a, 0, "abc", 3, nil)
	for range 3 {
		none := make(chan api.Command)
		close(none)
		ends(t, sealstream.Serve(a, none))
	}
	ends(t, sealstream.Serve(a, nil)) // over which none can come
	sendsFrames(t, a, "P20: nothing was done", data(0, 0, "abc"))
}

// TestServeOfNoSide: commands are answered as by a side that is closed.
func TestServeOfNoSide(t *testing.T) {
	for _, c := range []*sealstream.Conn{nil, {}} {
		x := served(t, c)
		for op := range 11 {
			want := api.Answer{Err: api.ErrClosed}
			if op == 0 || op == api.Tick || op == api.Packets || op == 10 {
				want = api.Answer{}
			}
			x.wants(api.Command{Op: op}, want)
		}
		x.stops()
	}
}

// TestServeDoesNotWait: neither for commands nor for those who take answers.
func TestServeDoesNotWait(t *testing.T) {
	a, b := pair(t, small())
	back := make(chan (<-chan api.Answer))
	full := make(chan api.Command, 50)
	for range 50 {
		full <- api.Command{Op: api.Write, Data: "x"}
	}
	empty := make(chan api.Command)
	go func() {
		back <- sealstream.Serve(a, empty)
		back <- sealstream.Serve(b, full)
	}()
	var l [2]<-chan api.Answer
	for i := range l {
		select {
		case l[i] = <-back:
		case <-time.After(20 * time.Second):
			t.Fatalf("P20: Serve waits")
		}
	}
	empty <- api.Command{Op: api.Write, Data: "late"}
	if got := answer(t, l[0]); got.N != 4 {
		t.Errorf("P20: a late command is answered by %+v", got)
	}
	close(empty)
	ends(t, l[0])
	close(full)
	for i := range 50 {
		want := api.Answer{}
		if i < 20 {
			want.N = 1
		}
		if got := answer(t, l[1]); !reflect.DeepEqual(got, want) {
			t.Errorf("P20: command %d is answered by %+v, want %+v", i, got, want)
		}
	}
	ends(t, l[1])
	ends(t, l[1])
}

// TestOneBehindTheOther: in their order, whatever room the channel has, and none is passed over when it is closed.
func TestOneBehindTheOther(t *testing.T) {
	for _, room := range []int{0, 1, 7, 1000} {
		a, b := pair(t, wide())
		in := make(chan api.Command, room)
		out := sealstream.Serve(a, in)
		go func() {
			for i := range 300 {
				in <- api.Command{Op: api.Write, Data: strings.Repeat(string(rune('a'+i%26)), i%4)}
			}
			in <- api.Command{Op: api.Finish}
			in <- api.Command{Op: api.Packets}
			close(in)
		}()
		want := ""
		for i := range 300 {
			want += strings.Repeat(string(rune('a'+i%26)), i%4)
			if got := answer(t, out); !reflect.DeepEqual(got, api.Answer{N: i % 4}) {
				t.Errorf("P20: command %d is answered by %+v", i, got)
			}
		}
		answer(t, out)
		l := answer(t, out).Packets
		ends(t, out)
		got := ""
		for range 100 {
			for _, p := range l {
				receives(t, b, []byte(p), nil)
			}
			s, _, _, _ := b.Read(0, 5000)
			got += string(s)
			carry(t, b, a) // nobody serves it any more
			l = call(a, api.Command{Op: api.Packets}).Packets
		}
		if got != want {
			t.Errorf("P20: room %d: %d bytes came, %d were written", room, len(got), len(want))
		}
	}
}

// TestServeOnceMore: a side goes on where the last commands left it.
func TestServeOnceMore(t *testing.T) {
	a, b := pair(t, small())
	for i := range 4 {
		x := served(t, a)
		x.wants(api.Command{Op: api.Write, Stream: 3, Data: "abcd"}, api.Answer{N: 4})
		x.stops()
		came(t, a, 3, 4*i, nil)
		carry(t, a, b)
		carry(t, b, a)
	}
	reads(t, b, 3, 99, "abcdabcdabcdabcd", api.Open)
}

// TestAnswersAreAsTheCalls: two pairs of sides, one served, one called; equal commands, equal answers.
func TestAnswersAreAsTheCalls(t *testing.T) {
	for seed := range int64(40) {
		r := rand.New(rand.NewSource(seed))
		c := api.Config{MTU: 64 + r.Intn(237), Window: 16 + r.Intn(100)}
		var called [2]*sealstream.Conn
		var asked [2]asker
		for i := range 2 {
			called[i] = newSide(t, c, i == 0)
			asked[i] = served(t, newSide(t, c, i == 0))
		}
		var ways [2][]string
		for range 400 {
			i := r.Intn(2)
			q := someCommand(r, &ways[1-i])
			got, want := asked[i].ask(q), call(called[i], q)
			if !reflect.DeepEqual(got, want) {
				t.Fatalf("P20: %+v is answered by %+v, called %+v", q, got, want)
			}
			ways[i] = append(ways[i], got.Packets...)
		}
		for _, x := range asked {
			x.stops()
		}
	}
}

// someCommand is any, most of the time a good one; packets are taken off the way, some not.
func someCommand(r *rand.Rand, way *[]string) api.Command {
	q := api.Command{Op: r.Intn(11), Stream: r.Intn(4), N: r.Intn(100) - 3, Code: uint64(r.Intn(100)), Data: string(counted(r.Intn(60)))}
	switch {
	case q.Op == api.Leave && r.Intn(20) > 0, q.Op == api.GiveUp && r.Intn(8) > 0, q.Op == api.Finish && r.Intn(4) > 0:
		q.Op = api.Packets
	case r.Intn(40) == 0:
		q.Stream, q.Code = r.Intn(9)-3, top+uint64(r.Intn(3))
	}
	if r.Intn(3) == 0 && len(*way) > 0 {
		q.Op = api.Receive
	}
	if q.Op == api.Receive && len(*way) > 0 && r.Intn(30) > 0 {
		n := r.Intn(min(3, len(*way)))
		q.Data = (*way)[n]
		if r.Intn(9) > 0 {
			*way = append((*way)[:n], (*way)[n+1:]...)
		}
	}
	return q
}

// TestAskedFromOutside: package plain's commands are answered as its calls are.
func TestAskedFromOutside(t *testing.T) {
	l := []api.Command{
		{Op: api.Write, Stream: 1, Data: "abc"}, {Op: api.Packets}, {Op: api.GiveUp, Stream: 1, Code: 9}, {Op: api.Write, Stream: 1, Data: "x"},
		{Op: 50}, {Op: api.Tick}, {Op: api.Tick}, {Op: api.Tick}, {Op: api.Tick}, {Op: api.Packets}, {Op: api.Receive, Data: string(packet(t, 0, fin(0, 0, "xyz")))},
		{Op: api.Read, N: 2}, {Op: api.Read, N: 2}, {Op: api.Came, Stream: 1}, {Op: api.Receive, Data: string(packet(t, 1, acked(0)))}, {Op: api.Came, Stream: 1},
		{Op: api.Receive, Data: string(sealstream.Seal(counting(), false, 9, []byte{1, 7}))}, {Op: api.Packets}, {Op: api.Packets}, {Op: api.Leave},
	}
	for _, room := range []int{0, 3, 100} {
		a, b := newSide(t, small(), true), newSide(t, small(), true)
		got, ended := plain.Served(a, l, room)
		if !ended || len(got) != len(l) {
			t.Fatalf("P20: %d answers of %d, ended: %v", len(got), len(l), ended)
		}
		for i, q := range l {
			e, at, n, code, s, packets := plain.Do(b, q)
			if want := (plain.Result{E: int(e), At: at, N: n, Code: code, Data: s, Packets: packets}); !reflect.DeepEqual(got[i], want) {
				t.Errorf("P20: %+v is answered by %+v, called %+v", q, got[i], want)
			}
		}
	}
}

// TestTwoSidesThatAreServed talk by commands alone, until one leaves, and the other is told.
func TestTwoSidesThatAreServed(t *testing.T) {
	a, b := pair(t, small())
	sides := [2]asker{served(t, a), served(t, b)}
	text := strings.Repeat("0123456789", 30)
	wrote, got := [2]int{}, [2]string{}
	step := func(i int) (told error) {
		me, you := sides[i], sides[1-i]
		wrote[i] += me.ask(api.Command{Op: api.Write, Stream: i, Data: text[wrote[i]:]}).N
		me.wants(api.Command{Op: api.Tick}, api.Answer{})
		for _, p := range me.ask(api.Command{Op: api.Packets}).Packets {
			told = you.ask(api.Command{Op: api.Receive, Data: p}).Err
		}
		got[i] += you.ask(api.Command{Op: api.Read, Stream: i, N: 500}).Data
		return told
	}
	for range 100 {
		if one, two := step(0), step(1); one != nil || two != nil {
			t.Fatalf("P20: %v, %v", one, two)
		}
	}
	if got != [2]string{text, text} {
		t.Errorf("P20: %d and %d bytes came", len(got[0]), len(got[1]))
	}
	sides[0].wants(api.Command{Op: api.Came, Stream: 0}, api.Answer{N: 300})
	sides[1].wants(api.Command{Op: api.Leave, Code: 12}, api.Answer{})
	if err := step(1); err != api.ErrPeer {
		t.Errorf("P19, P20: the other is told %v", err)
	}
	sides[0].stops()
	sides[1].stops()
	isClosed(t, a, api.ErrPeer)
	isClosed(t, b, api.ErrClosed)
}
