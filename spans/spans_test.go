package spans

import (
	"math/rand"
	"slices"
	"testing"
)

// spansOf is the set of the numbers of which there are some.
func spansOf(in []bool) (s Set) {
	for n, is := range in {
		switch {
		case !is:
		case n > 0 && in[n-1]:
			s[len(s)-1].To++
		default:
			s = append(s, Span{uint64(n), uint64(n) + 1})
		}
	}
	return s
}

func TestSet(t *testing.T) {
	r := rand.New(rand.NewSource(1))
	for range 300 {
		var s Set
		in := make([]bool, 40)
		for range 60 {
			x := Span{uint64(r.Intn(40)), uint64(r.Intn(41))}
			if r.Intn(2) == 0 {
				x.To = min(x.From+uint64(r.Intn(4)), 40)
			}
			add := r.Intn(2) == 0
			before := slices.Clone(s)
			shared := s
			if add {
				s.Add(x)
			} else {
				s.Cut(x)
			}
			for n := x.From; n < x.To; n++ {
				in[n] = add
			}
			if want := spansOf(in); !slices.Equal(s, want) {
				t.Fatalf("%v, added: %v, %v: %v, want %v", before, add, x, s, want)
			}
			if !slices.Equal(shared, before) {
				t.Fatalf("%v was written into: %v", before, shared)
			}
		}
		checkHolds(t, s, in)
	}
}

func checkHolds(t *testing.T, s Set, in []bool) {
	for from := range 40 {
		for to := range 41 {
			want := from >= to || !slices.Contains(in[from:to], false)
			if got := s.Holds(Span{uint64(from), uint64(to)}); got != want {
				t.Fatalf("%v holds %d to %d: %v", s, from, to, got)
			}
		}
	}
}
