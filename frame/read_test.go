package frame

import (
	"math/rand"
	"testing"

	"sealstream/api"
)

// thrown is what reading one frame throws, without Decode, which would catch a fault of the program too.
func thrown(b []byte) (x any) {
	defer func() { x = recover() }()
	r := reader{bytes: b}
	r.frame(shapes())
	return nil
}

func TestReadingThrowsFaultsOfBytesOnly(t *testing.T) {
	r := rand.New(rand.NewSource(3))
	firsts := []byte{padding, ping, ack, reset, data, lastData, closing, 0x03, 0xff}
	for range 100000 {
		b := make([]byte, r.Intn(30))
		r.Read(b)
		for i := range b {
			if r.Intn(2) == 0 { // else hardly a number is small
				b[i] &= 0x07
			}
		}
		if len(b) > 0 {
			b[0] = firsts[r.Intn(len(firsts))]
		}
		if x := thrown(b); x != nil && x != api.ErrFrame {
			t.Fatalf("P5: reading %x throws %v", b, x)
		}
	}
}

func TestFirstBytes(t *testing.T) {
	got := [...]byte{padding, ping, ack, reset, data, lastData, closing}
	if want := [...]byte{0x00, 0x01, 0x02, 0x04, 0x08, 0x09, 0x1c}; got != want {
		t.Errorf("P3: the first bytes are %x, want %x", got, want)
	}
}
