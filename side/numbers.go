package side

import (
	"slices"

	"sealstream/api"
	"sealstream/spans"
)

// numbers is those of the packets that came. Below the floor it is not known which did.
type numbers struct {
	spans.Set
	floor uint64
}

func one(n uint64) spans.Span { return spans.Span{From: n, To: n + 1} }

// passed tells whether a packet of that number is nothing new.
func (s *numbers) passed(n uint64) bool { return n < s.floor || s.Holds(one(n)) }

func (s *numbers) add(n uint64) {
	s.Add(one(n))
	if len(s.Set) > api.MaxRanges {
		s.floor = s.Set[0].To
		s.Set = slices.Delete(s.Set, 0, 1)
	}
}

// ranges is as an Ack names them: the highest first.
func (s *numbers) ranges() []api.Range {
	var l []api.Range
	for _, x := range slices.Backward(s.Set) {
		l = append(l, api.Range{Lo: x.From, Hi: x.To - 1})
	}
	return l
}
