// Package spans keeps sets of numbers: of packets, or of places in a stream.
package spans

import (
	"slices"
	"sort"
)

// Span is the numbers from From on, up to To, which is not one of them.
type Span struct {
	From, To uint64
}

func (s Span) empty() bool { return s.From >= s.To }

// Set is spans, none empty, the lowest first, with something between each two.
type Set []Span

// Add puts a span's numbers in.
func (s *Set) Add(x Span) {
	if x.empty() {
		return
	}
	l := *s
	i := sort.Search(len(l), func(i int) bool { return l[i].To >= x.From })
	j := sort.Search(len(l), func(j int) bool { return l[j].From > x.To })
	if i < j { // those that x lies over, or touches, become one with it
		x = Span{min(x.From, l[i].From), max(x.To, l[j-1].To)}
	}
	// No room behind i: what is appended there must not lie over what comes behind it.
	*s = append(append(l[:i:i], x), l[j:]...)
}

// Cut takes a span's numbers out.
func (s *Set) Cut(x Span) {
	l := *s
	i := sort.Search(len(l), func(i int) bool { return l[i].To > x.From })
	j := sort.Search(len(l), func(j int) bool { return l[j].From >= x.To })
	if x.empty() || i >= j {
		return
	}
	kept := l[:i:i] // no room behind, as in Add
	for _, rest := range [...]Span{{l[i].From, x.From}, {x.To, l[j-1].To}} {
		if !rest.empty() {
			kept = append(kept, rest)
		}
	}
	*s = append(kept, l[j:]...)
}

// Holds tells whether all of a span's numbers are in.
func (s Set) Holds(x Span) bool {
	return x.empty() || slices.ContainsFunc(s, func(y Span) bool { return y.From <= x.From && x.To <= y.To })
}
