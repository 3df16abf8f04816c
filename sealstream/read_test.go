package sealstream_test

import (
	"math"
	"testing"

	"sealstream/api"
	"sealstream/sealstream"
)

func readsGiven(t *testing.T, c *sealstream.Conn, k int, want uint64) {
	t.Helper()
	for _, most := range []int{0, 5, -1} {
		if b, state, code, err := c.Read(k, most); b != nil || state != api.Given || code != want || err != nil {
			t.Errorf("P15, P18: Read(%d, %d) = %q, %d, %d, %v, want Given, %d", k, most, b, state, code, err, want)
		}
	}
}

func TestReadAsksTheStream(t *testing.T) {
	a, _ := pair(t, small())
	for _, k := range []int{-1, 4, math.MinInt, math.MaxInt} {
		if b, state, code, err := a.Read(k, 5); b != nil || state != 0 || code != 0 || err != api.ErrStream {
			t.Errorf("P15: Read(%d) = %q, %d, %d, %v", k, b, state, code, err)
		}
	}
	for _, k := range []int{0, 3} {
		receives(t, a, packet(t, uint64(k), data(k, 0, "abc")), nil)
		reads(t, a, k, 5, "abc", api.Open)
	}
}

func TestReadAsMuchAsIsAsked(t *testing.T) {
	a, _ := pair(t, small())
	receives(t, a, packet(t, 0, fin(0, 0, "0123456789")), nil)
	for _, most := range []int{0, -1, math.MinInt} {
		reads(t, a, 0, most, "", api.Open)
	}
	reads(t, a, 0, 1, "0", api.Open)
	reads(t, a, 0, 4, "1234", api.Open)
	reads(t, a, 0, 0, "", api.Open)
	reads(t, a, 0, math.MaxInt, "56789", api.Finished)
	for _, most := range []int{0, -1, 5, math.MaxInt, math.MinInt} {
		reads(t, a, 0, most, "", api.Finished)
	}
	receives(t, a, packet(t, 1, data(0, 2, "xyz"), fin(0, 10, "")), nil) // they came, and were read
	reads(t, a, 0, 5, "", api.Finished)
}

func TestReadJustUpToTheEnd(t *testing.T) {
	a, _ := pair(t, small())
	receives(t, a, packet(t, 0, fin(0, 0, "abc"), data(1, 0, "abc"), fin(2, 0, "")), nil)
	reads(t, a, 0, 3, "abc", api.Finished)
	reads(t, a, 1, 3, "abc", api.Open)
	receives(t, a, packet(t, 1, fin(1, 3, "")), nil)
	reads(t, a, 1, -1, "", api.Finished)
	reads(t, a, 2, 0, "", api.Finished)
}

func TestReadUpToAHole(t *testing.T) {
	a, _ := pair(t, small())
	receives(t, a, packet(t, 0, data(0, 4, "ef"), fin(0, 8, "i")), nil)
	reads(t, a, 0, 9, "", api.Open)
	receives(t, a, packet(t, 1, data(0, 0, "ab")), nil)
	reads(t, a, 0, 9, "ab", api.Open)
	receives(t, a, packet(t, 2, data(0, 3, "D")), nil)
	reads(t, a, 0, 9, "", api.Open)
	receives(t, a, packet(t, 3, data(0, 2, "c")), nil)
	reads(t, a, 0, 3, "cDe", api.Open)
	receives(t, a, packet(t, 4, data(0, 6, "gh")), nil)
	reads(t, a, 0, 9, "fghi", api.Finished)
}

// TestTheFirstBytesStay: of those that come twice, and differ.
func TestTheFirstBytesStay(t *testing.T) {
	for _, c := range []struct {
		frames []api.Frame
		want   string
	}{
		{[]api.Frame{data(0, 0, "abc"), data(0, 0, "xyz")}, "abc"},
		{[]api.Frame{data(0, 0, "abc"), data(0, 1, "XYZ")}, "abcZ"},
		{[]api.Frame{data(0, 2, "cde"), data(0, 0, "01234567")}, "01cde567"},
		{[]api.Frame{data(0, 1, "b"), data(0, 3, "d"), data(0, 5, "f"), data(0, 0, "0123456")}, "0b2d4f6"},
		{[]api.Frame{data(0, 1, "b"), data(0, 3, "d"), data(0, 2, "XYZ"), data(0, 0, "?")}, "?bXdZ"},
		{[]api.Frame{data(0, 5, "f"), data(0, 0, "01234"), data(0, 0, "xxxxxxx")}, "01234fx"},
		{[]api.Frame{fin(0, 0, "abc"), fin(0, 0, "xyz"), fin(0, 3, "")}, "abc"},
	} {
		a, b := pair(t, small())
		receives(t, a, packet(t, 0, c.frames...), nil)
		for i, f := range c.frames { // or each in its own packet
			l, _ := sealstream.Encode([]api.Frame{f})
			receives(t, b, sealstream.Seal(counting(), true, uint64(i), l), nil)
		}
		for _, s := range []*sealstream.Conn{a, b} {
			if got, _, _, err := s.Read(0, 99); string(got) != c.want || err != nil {
				t.Errorf("P13: %+v: Read = %q, %v, want %q", c.frames, got, err, c.want)
			}
		}
	}
	a, _ := pair(t, small())
	receives(t, a, packet(t, 0, data(0, 0, "abcdef")), nil)
	reads(t, a, 0, 3, "abc", api.Open)
	receives(t, a, packet(t, 1, data(0, 1, "123456")), nil) // over the place up to which it was read
	reads(t, a, 0, 9, "def6", api.Open)
}

func TestReadOfAStreamThatWasGivenUp(t *testing.T) {
	a, _ := pair(t, small())
	receives(t, a, packet(t, 0, data(0, 0, "abc"), fin(1, 0, "abc"), fin(2, 0, "abc"), fin(3, 0, "abc")), nil)
	reads(t, a, 0, 1, "a", api.Open)
	reads(t, a, 2, 3, "abc", api.Finished)
	reads(t, a, 3, 2, "ab", api.Open)
	receives(t, a, packet(t, 1, resetOf(0, 3, 7), resetOf(1, 3, 0), resetOf(2, 3, 9), resetOf(3, 3, top)), nil)
	readsGiven(t, a, 0, 7)
	readsGiven(t, a, 1, 0)
	reads(t, a, 2, 5, "", api.Finished) // it stays
	readsGiven(t, a, 3, top)
	receives(t, a, packet(t, 2, resetOf(0, 3, 8), data(0, 0, "abc"), fin(1, 0, "abc")), nil)
	readsGiven(t, a, 0, 7)
	readsGiven(t, a, 1, 0)
}

// TestNoWindowForWhatWasGivenUp: a frame of it is not ErrBusy, wherever it ends.
func TestNoWindowForWhatWasGivenUp(t *testing.T) {
	a, _ := pair(t, small())
	receives(t, a, packet(t, 0, resetOf(0, 1000, 7)), nil)
	receives(t, a, packet(t, 1, data(0, 900, "xyz"), fin(0, 1000, "")), nil)
	receives(t, a, packet(t, 2, data(1, 900, "xyz")), api.ErrBusy)
	readsGiven(t, a, 0, 7)
	receives(t, a, packet(t, 2, data(0, 998, "xyz")), api.ErrFinal)
	isClosed(t, a, api.ErrFinal)
}

// TestStreamsFarBehind: the reader asks no 4,096, and numbers do not wrap around.
func TestStreamsFarBehind(t *testing.T) {
	a, _ := pair(t, api.Config{MTU: 64, Window: 1000})
	n := uint64(0)
	for range 50 {
		receives(t, a, packet(t, n, data(0, n*200, string(counted(200)))), nil)
		reads(t, a, 0, 1000, string(counted(200)), api.Open)
		n++
	}
}
