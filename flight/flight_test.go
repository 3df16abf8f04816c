package flight

import (
	"testing"

	"sealstream/api"
	"sealstream/spans"
	"sealstream/stream"
)

func piece(from, to uint64) stream.Piece {
	return stream.Piece{Span: spans.Span{From: from, To: to}}
}

// TestWhatIsKept: a packet is kept while an Ack of it would say something new, and once.
func TestWhatIsKept(t *testing.T) {
	var o stream.Out
	o.Write(make([]byte, 100), 100)
	o.Finish()
	f := New()
	kept := func(flying, lost int) {
		t.Helper()
		if len(f.flying) != flying || len(f.lost) != lost {
			t.Errorf("%d are on their way, %d were lost, want %d, %d", len(f.flying), len(f.lost), flying, lost)
		}
	}
	ack := func(lo, hi uint64) {
		t.Helper()
		if err := f.Ack([]api.Range{{Lo: lo, Hi: hi}}, func(_ int, p stream.Piece) { o.Arrive(p) }); err != nil {
			t.Errorf("Ack = %v", err)
		}
		f.Forget(func(_ int, p stream.Piece) bool { return o.Settled(p) })
	}
	last := piece(50, 100)
	last.End = true
	for _, p := range []stream.Piece{piece(0, 10), piece(10, 50), last, piece(0, 10), piece(10, 50), last, piece(100, 100)} {
		f.Depart(0, []stream.Piece{p})
	}
	f.Number()
	kept(7, 0)
	ack(5, 5) // 0, 1 and 2 are lost; the piece of 2 came by 5
	kept(3, 2)
	ack(3, 3)
	kept(2, 1)
	for range 3 {
		f.Tick()
	}
	kept(2, 1)
	f.Tick()
	kept(0, 3)
	ack(7, 7)
	kept(0, 2) // 1 and 4: the one without bytes says nothing
	ack(1, 1)
	kept(0, 0)
	if o.Came() != 100 {
		t.Errorf("%d came", o.Came())
	}
}

// TestAnEndIsKept: a packet that was lost with an end that did not come.
func TestAnEndIsKept(t *testing.T) {
	var o stream.Out
	o.Finish()
	end := stream.Piece{Word: stream.Word{End: true}}
	if o.Settled(end) || !o.Settled(piece(0, 0)) {
		t.Errorf("an end that was not sent is settled, or nothing is not")
	}
	o.Arrive(end)
	if !o.Settled(end) || !o.Settled(piece(0, 0)) {
		t.Errorf("an end that came is not settled")
	}
}

func TestPiecesOfAStream(t *testing.T) {
	f := New()
	f.Depart(1, []stream.Piece{piece(0, 10), piece(20, 30)})
	f.Depart(2, []stream.Piece{piece(0, 5)})
	f.Depart(1, []stream.Piece{piece(40, 50)})
	n := 0
	for p := range f.Flying(1) {
		if n++; p.From == 20 {
			break
		}
	}
	if n != 2 {
		t.Errorf("%d pieces up to the second", n)
	}
	for range f.Flying(1) {
		n++
	}
	if n != 5 {
		t.Errorf("%d pieces, want 3 more than 2", n)
	}
}
