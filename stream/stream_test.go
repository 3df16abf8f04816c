package stream

import (
	"testing"

	"sealstream/api"
	"sealstream/spans"
)

// TestBytesAreDropped: no more is held than may be sent or read yet.
func TestBytesAreDropped(t *testing.T) {
	var o Out
	o.Write(make([]byte, 100), 100)
	o.Arrive(Piece{Span: spans.Span{From: 50, To: 100}})
	if len(o.bytes) != 100 || o.Came() != 0 {
		t.Errorf("%d bytes are held, %d came", len(o.bytes), o.Came())
	}
	o.Arrive(Piece{Span: spans.Span{From: 0, To: 40}})
	if len(o.bytes) != 60 || cap(o.bytes) > 70 || o.Came() != 40 {
		t.Errorf("%d bytes are held in %d, %d came", len(o.bytes), cap(o.bytes), o.Came())
	}
	var i In
	i.Data(api.Frame{Kind: api.Data, Data: string(make([]byte, 100))})
	i.Read(70)
	if len(i.bytes) != 30 || cap(i.bytes) > 40 {
		t.Errorf("%d bytes are held in %d", len(i.bytes), cap(i.bytes))
	}
	i.Reset(api.Frame{Kind: api.Reset, Offset: 1 << 40})
	if i.bytes != nil {
		t.Errorf("%d bytes are held of a stream that was given up", len(i.bytes))
	}
	i.Data(api.Frame{Kind: api.Data, Offset: 200, Data: "abc"}) // wherever it is: there is no window any more
	if i.bytes != nil || i.came != nil {
		t.Errorf("%d bytes came of a stream that was given up", len(i.bytes))
	}
}

// TestGivenUpBytesAreDropped: they are not sent any more; how many came is known even so.
func TestGivenUpBytesAreDropped(t *testing.T) {
	var o Out
	o.Write(make([]byte, 100), 100)
	o.Send(0, Piece{Span: spans.Span{From: 0, To: 70}})
	o.GiveUp(5)
	if o.bytes != nil || len(o.Missing().Set) > 0 {
		t.Errorf("%d bytes are held of a stream that was given up", len(o.bytes))
	}
	o.Arrive(Piece{Span: spans.Span{From: 30, To: 70}})
	o.Arrive(Piece{Span: spans.Span{From: 0, To: 10}})
	if o.Came() != 10 || len(o.Missing().Set) > 0 {
		t.Errorf("%d came, %v is missing", o.Came(), o.Missing())
	}
	o.Arrive(Piece{Span: spans.Span{From: 10, To: 30}})
	if o.Came() != 70 {
		t.Errorf("%d came", o.Came())
	}
}

// TestAResetWithLittleRoom: five bytes, if its code has two.
func TestAResetWithLittleRoom(t *testing.T) {
	var o Out
	o.GiveUp(64)
	for room := range 8 {
		p, ok := o.Next(o.Missing(), room)
		if ok != (room >= 5) || ok && p != (Piece{Word: Word{Given: true}}) {
			t.Errorf("of %d bytes of room: %+v, %v", room, p, ok)
		}
	}
}

// TestWhatSaysNothingNew: of a stream that was given up its end does not matter any more.
func TestWhatSaysNothingNew(t *testing.T) {
	end, given := Piece{Word: Word{End: true}}, Piece{Word: Word{Given: true}}
	bytes := Piece{Span: spans.Span{From: 0, To: 3}}
	for _, c := range []struct {
		name              string
		do                func(o *Out)
		end, given, bytes bool
	}{
		{"finished", func(o *Out) { o.Finish() }, false, true, false},
		{"the end came", func(o *Out) { o.Finish(); o.Arrive(end) }, true, true, false},
		{"given up", func(o *Out) { o.Finish(); o.GiveUp(5) }, true, false, false},
		{"that came", func(o *Out) { o.GiveUp(5); o.Arrive(given) }, true, true, false},
		{"the bytes came", func(o *Out) { o.GiveUp(5); o.Arrive(bytes) }, true, false, true},
	} {
		var o Out
		o.Write([]byte("abc"), 100)
		c.do(&o)
		if o.Settled(end) != c.end || o.Settled(given) != c.given || o.Settled(bytes) != c.bytes {
			t.Errorf("%s: %v, %v, %v", c.name, o.Settled(end), o.Settled(given), o.Settled(bytes))
		}
	}
}

// TestAnEndWithLittleRoom: four bytes are the head of a frame, and all that an end needs.
func TestAnEndWithLittleRoom(t *testing.T) {
	var empty, full Out
	full.Write([]byte("abc"), 100)
	full.Arrive(Piece{Span: spans.Span{From: 0, To: 3}})
	for _, o := range []*Out{&empty, &full} {
		o.Finish()
		for room := range 8 {
			p, ok := o.Next(o.Missing(), room)
			if ok != (room >= 4) || ok && p != (Piece{Span: spans.Span{From: o.end(), To: o.end()}, Word: Word{End: true}}) {
				t.Errorf("of %d bytes of room: %+v, %v", room, p, ok)
			}
		}
	}
}

// TestBytesWithLittleRoom: a head without bytes is not sent.
func TestBytesWithLittleRoom(t *testing.T) {
	var o Out
	o.Write([]byte("abc"), 100)
	o.Finish()
	for room := range 10 {
		p, ok := o.Next(o.Missing(), room)
		n := min(3, uint64(max(room, 4)-4))
		if ok != (n > 0) || ok && p != (Piece{Span: spans.Span{To: n}, Word: Word{End: n == 3}}) {
			t.Errorf("of %d bytes of room: %+v, %v", room, p, ok)
		}
	}
}
