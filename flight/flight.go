// Package flight keeps the packets that a side sent, until it is known what became of them (P16).
package flight

import (
	"iter"
	"slices"

	"sealstream/api"
	"sealstream/stream"
)

// Flight is the packets on their way, and those that were lost: an Ack may yet name these.
type Flight struct {
	count  uint64 // packets that were sent, whatever was in them
	tick   int
	wait   int
	flying []packet
	lost   []packet
}

// packet is one that was sent, with pieces of one stream.
type packet struct {
	number uint64
	tick   int
	stream int
	pieces []stream.Piece
}

// New is that of a side that has sent nothing.
func New() Flight { return Flight{wait: api.FirstWait} }

// Full tells whether no more packets may be on their way.
func (f *Flight) Full() bool { return len(f.flying) >= api.MaxFlight }

// Number is that of the packet that is sent now. This alone does not set it on its way: Acks are not.
func (f *Flight) Number() uint64 {
	f.count++
	return f.count - 1
}

// Depart is the number of a packet that is sent now with pieces of the stream k, and is on its way.
func (f *Flight) Depart(k int, pieces []stream.Piece) uint64 {
	n := f.Number()
	f.flying = append(f.flying, packet{n, f.tick, k, pieces})
	return n
}

// Flying goes through the pieces of a stream that are on their way.
func (f *Flight) Flying(k int) iter.Seq[stream.Piece] {
	return func(yield func(stream.Piece) bool) {
		for _, p := range f.flying {
			for _, x := range p.pieces {
				if p.stream == k && !yield(x) {
					return
				}
			}
		}
	}
}

// Tick lets a tick pass.
func (f *Flight) Tick() {
	f.tick++
	if !slices.ContainsFunc(f.flying, f.late) {
		return
	}
	f.lose(func(packet) bool { return true })
	f.wait = min(2*f.wait, api.LastWait)
}

func (f *Flight) late(p packet) bool { return f.tick-p.tick >= f.wait }

func (f *Flight) lose(gone func(packet) bool) {
	for _, p := range f.flying {
		if gone(p) {
			f.lost = append(f.lost, p)
		}
	}
	f.flying = slices.DeleteFunc(f.flying, gone)
}

// Ack takes what an Ack names: came is told each piece of it.
func (f *Flight) Ack(l []api.Range, came func(k int, p stream.Piece)) error {
	highest := l[0].Hi
	if highest >= f.count {
		return api.ErrAck
	}
	named := func(p packet) bool { return names(l, p.number) }
	if slices.ContainsFunc(f.flying, named) {
		f.wait = api.FirstWait
	}
	f.flying = land(f.flying, named, came)
	f.lost = land(f.lost, named, came)
	f.lose(func(p packet) bool { return p.number+api.LossGap <= highest })
	return nil
}

func names(l []api.Range, number uint64) bool {
	return slices.ContainsFunc(l, func(r api.Range) bool { return r.Lo <= number && number <= r.Hi })
}

// land is the packets but those that came.
func land(l []packet, named func(packet) bool, came func(k int, p stream.Piece)) []packet {
	return slices.DeleteFunc(l, func(p packet) bool {
		if !named(p) {
			return false
		}
		for _, x := range p.pieces {
			came(p.stream, x)
		}
		return true
	})
}

// Forget lets those that were lost go, if all that they carried came by others: an Ack of them would say nothing new.
func (f *Flight) Forget(settled func(k int, p stream.Piece) bool) {
	f.lost = slices.DeleteFunc(f.lost, func(p packet) bool {
		return !slices.ContainsFunc(p.pieces, func(x stream.Piece) bool { return !settled(p.stream, x) })
	})
}
