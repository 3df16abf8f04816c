package frame

import (
	"strings"
	"testing"

	"sealstream/api"
)

func size(t *testing.T, f api.Frame) int {
	t.Helper()
	b, err := Encode([]api.Frame{f})
	if err != nil {
		t.Fatalf("Encode(%+v) = %v", f, err)
	}
	return len(b)
}

func TestMostDataJustFits(t *testing.T) {
	for _, offset := range []uint64{0, 63, 64, 4096, 1<<14 - 1, 1 << 14, 1 << 30} {
		for room := range 400 {
			sizeWith := func(n int) int {
				return size(t, api.Frame{Kind: api.Data, Stream: 3, Offset: offset, Data: strings.Repeat("x", n)})
			}
			n := MostData(offset, room)
			if n >= 0 && sizeWith(n) > room || sizeWith(max(n+1, 0)) <= room {
				t.Errorf("P10: of %d bytes of room at %d: %d", room, offset, n)
			}
		}
	}
}

func TestResetSize(t *testing.T) {
	numbers := []uint64{0, 63, 64, 4096, 1<<14 - 1, 1 << 14, 1<<30 - 1, 1 << 30, 1<<62 - 1}
	for _, offset := range numbers {
		for _, code := range numbers {
			f := api.Frame{Kind: api.Reset, Stream: 3, Offset: offset, Code: code}
			if n := ResetSize(offset, code); n != size(t, f) {
				t.Errorf("P10: %+v has %d bytes, not %d", f, size(t, f), n)
			}
		}
	}
}

func TestMostRangesJustFit(t *testing.T) {
	for _, step := range []uint64{2, 10, 100, 1 << 20, 1 << 40} {
		var l []api.Range
		for i := range uint64(8) {
			l = append(l, api.Range{Lo: (9-i)*step - step/3, Hi: (9 - i) * step})
		}
		for room := range 200 {
			n := MostRanges(l, room)
			if n > 0 && size(t, api.Frame{Kind: api.Ack, Ranges: l[:n]}) > room {
				t.Errorf("P10: %d ranges do not fit in %d bytes", n, room)
			}
			if n < len(l) && size(t, api.Frame{Kind: api.Ack, Ranges: l[:n+1]}) <= room {
				t.Errorf("P10: %d bytes have room for more than %d ranges", room, n)
			}
		}
	}
}
