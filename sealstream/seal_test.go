package sealstream_test

import (
	"bytes"
	"encoding/binary"
	"encoding/hex"
	"math/rand"
	"testing"

	"sealstream/api"
	"sealstream/sealstream"
)

// sealed is a packet as the document says it, made of Hash alone.
func sealed(key api.Key, side byte, number uint64, b []byte) []byte {
	p := binary.BigEndian.AppendUint64(nil, number)
	for i, x := range b {
		seed := binary.BigEndian.AppendUint64([]byte{side, 1}, number)
		piece := sealstream.Hash(key, append(seed, byte(i/8)))
		p = append(p, x^byte(piece>>(56-i%8*8)))
	}
	marked := binary.BigEndian.AppendUint64([]byte{side, 2}, number)
	return binary.BigEndian.AppendUint64(p, sealstream.Hash(key, append(marked, p[8:]...)))
}

func notSealed(t *testing.T, name string, key api.Key, first bool, p []byte) {
	t.Helper()
	if n, b, err := sealstream.Unseal(key, first, p); n != 0 || b != nil || err != api.ErrSeal {
		t.Errorf("P7: %s: Unseal = %d, %x, %v, want ErrSeal", name, n, b, err)
	}
}

func opens(t *testing.T, key api.Key, first bool, p []byte, number uint64, want []byte) {
	t.Helper()
	n, b, err := sealstream.Unseal(key, first, p)
	if n != number || !bytes.Equal(b, want) || err != nil || len(want) == 0 && b != nil {
		t.Errorf("P7: Unseal of packet %d of %d bytes = %d, %x, %v, want %x", number, len(p), n, b, err, want)
	}
}

func TestSealedBytes(t *testing.T) {
	for _, c := range []struct {
		first  bool
		number uint64
		b      string
		want   string
	}{
		{true, 0, "", "00000000000000008ab5910d8f915a11"},
		{false, 0, "\x01", "0000000000000000523fc3ed9ae31e7a92"},
		{true, 70, "hello, other side", "000000000000004650d5fd3392ce4c06a357b207dcb42b78bcb8754aef9fdf7d58"},
	} {
		p := sealstream.Seal(counting(), c.first, c.number, []byte(c.b))
		if hex.EncodeToString(p) != c.want {
			t.Errorf("P7: Seal(%v, %d, %q) = %x, want %s", c.first, c.number, c.b, p, c.want)
		}
		opens(t, counting(), c.first, p, c.number, []byte(c.b))
	}
}

func TestSealAndUnseal(t *testing.T) {
	r := rand.New(rand.NewSource(2))
	for n := range 285 {
		var key api.Key
		r.Read(key[:])
		b := make([]byte, n)
		r.Read(b)
		for side, first := range []bool{true, false} {
			number := someNumber(r)
			p := sealstream.Seal(key, first, number, b)
			if want := sealed(key, byte(side), number, b); !bytes.Equal(p, want) {
				t.Fatalf("P7: Seal(%x, %v, %d, %x) = %x, want %x", key, first, number, b, p, want)
			}
			opens(t, key, first, p, number, b)
			notSealed(t, "another side", key, !first, p)
			other := key
			other[r.Intn(16)] ^= 1 << r.Intn(8)
			notSealed(t, "another key", other, first, p)
		}
	}
}

func TestUnsealAsksBounds(t *testing.T) {
	key := counting()
	for n := range 16 {
		notSealed(t, "less than 16 bytes", key, true, make([]byte, n))
		notSealed(t, "a packet cut short", key, true, sealstream.Seal(key, true, 3, nil)[:n])
	}
	notSealed(t, "nil", key, true, nil)
	opens(t, key, true, sealstream.Seal(key, true, 3, nil), 3, nil)
	opens(t, key, true, sealstream.Seal(key, true, 3, []byte{}), 3, nil)
	opens(t, key, false, sealstream.Seal(key, false, 3, counted(283)), 3, counted(283))
	opens(t, key, false, sealstream.Seal(key, false, 3, counted(284)), 3, counted(284))
	notSealed(t, "301 bytes", key, false, sealstream.Seal(key, false, 3, counted(285)))
	notSealed(t, "3000 bytes", key, false, sealstream.Seal(key, false, 3, counted(2984)))
	opens(t, key, true, sealstream.Seal(key, true, top, counted(9)), top, counted(9))
	notSealed(t, "the number 2^62", key, true, sealstream.Seal(key, true, top+1, counted(9)))
	notSealed(t, "the number 2^64 - 1", key, true, sealstream.Seal(key, true, 1<<64-1, counted(9)))
}

func TestUnsealAsksTheTag(t *testing.T) {
	key := falling()
	p := sealstream.Seal(key, true, 5, counted(20))
	for i := range p {
		for bit := range 8 {
			q := bytes.Clone(p)
			q[i] ^= 1 << bit
			notSealed(t, "a bit turned", key, true, q)
		}
	}
	notSealed(t, "a byte more", key, true, append(bytes.Clone(p), 0))
	notSealed(t, "a byte ahead", key, true, append([]byte{0}, p...))
	notSealed(t, "zero bytes", key, true, make([]byte, 40))
	opens(t, key, true, p, 5, counted(20))
}

// TestSealAsksNoBounds: packets that Unseal would refuse; the mask of a long one goes around behind 255.
func TestSealAsksNoBounds(t *testing.T) {
	key := counting()
	for _, n := range []int{285, 2047, 2048, 2049, 5000} {
		b := counted(n)
		p := sealstream.Seal(key, false, 1<<64-1, b)
		if want := sealed(key, 1, 1<<64-1, b); !bytes.Equal(p, want) {
			t.Errorf("P7: Seal of %d bytes is another packet", n)
		}
	}
	mask := sealstream.Seal(key, true, 8, make([]byte, 4096))[8:]
	if !bytes.Equal(mask[:2048], mask[2048:4096]) {
		t.Errorf("P7: the mask does not go around behind 255")
	}
	for i := 8; i < 2048; i += 8 {
		if bytes.Equal(mask[:8], mask[i:i+8]) {
			t.Errorf("P7: the mask goes around at %d already", i)
		}
	}
}

func TestSealingOnlyReads(t *testing.T) {
	key, b := counting(), counted(50)
	p := sealstream.Seal(key, true, 5, b)
	if !bytes.Equal(b, counted(50)) || key != counting() {
		t.Errorf("P2: Seal wrote into what was handed in: %x", b)
	}
	own := bytes.Clone(p)
	_, back, err := sealstream.Unseal(key, true, own)
	if err != nil || !bytes.Equal(own, p) {
		t.Errorf("P2: Unseal wrote into its packet: %x, %v", own, err)
	}
	for i := range own {
		own[i] = '!'
	}
	if !bytes.Equal(back, b) {
		t.Errorf("P2: Unseal kept its packet: %x", back)
	}
	for i := range b {
		b[i] = '!'
	}
	opens(t, key, true, p, 5, counted(50))
}

func FuzzUnseal(f *testing.F) {
	f.Add(true, sealstream.Seal(counting(), true, 3, []byte("abc")))
	f.Add(false, sealstream.Seal(counting(), false, 3, nil))
	f.Fuzz(func(t *testing.T, first bool, p []byte) {
		n, b, err := sealstream.Unseal(counting(), first, p)
		if err != nil {
			notSealed(t, "no packet", counting(), first, p)
		} else if !bytes.Equal(sealstream.Seal(counting(), first, n, b), p) {
			t.Errorf("P7: Unseal(%x) = %d, %x: sealed again it is another", p, n, b)
		}
	})
}
