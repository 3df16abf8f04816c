package sealstream_test

import (
	"bytes"
	"testing"

	"sealstream/api"
	"sealstream/sealstream"
)

func counting() (k api.Key) {
	for i := range k {
		k[i] = byte(i)
	}
	return k
}

func falling() (k api.Key) {
	for i := range k {
		k[i] = byte(255 - 7*i)
	}
	return k
}

// counted is n bytes: 0, 1, .. 250, 0, 1, ..
func counted(n int) []byte {
	b := make([]byte, n)
	for i := range b {
		b[i] = byte(i % 251)
	}
	return b
}

// TestHash holds the hash against what another SipHash-2-4 (OpenSSL's) made of the same bytes.
func TestHash(t *testing.T) {
	for _, c := range []struct {
		n                       int
		counting, falling, zero uint64
	}{
		{0, 0x726fdb47dd0e0e31, 0xcb6b648d0ed2e921, 0x1e924b9d737700d7},
		{1, 0x74f839c593dc67fd, 0xbced35245f0e98d2, 0x8b5a0baa49fbc58d},
		{6, 0xcbc9466e58fee3ce, 0x9b857da9b9be89ef, 0x1f01e817d7d793af},
		{7, 0xab0200f58b01d137, 0x12b186582430b03f, 0xb3d67eaf2c11480b},
		{8, 0x93f5f5799a932462, 0xc58ec91a599fd10b, 0xc72b1c24fc2f7938},
		{9, 0x9e0082df0ba9e4b0, 0x5727df2aed7acc2b, 0x610e7ab6ada60b22},
		{14, 0xf723ca908e7af2ee, 0x42d4b11b48055240, 0xda6a048115121cab},
		{15, 0xa129ca6149be45e5, 0x2da14bd8bc9611f5, 0xd0567cd44e891363},
		{16, 0x3f2acc7f57c29bdb, 0x74bfe350e30e2936, 0xc902632ed88f897f},
		{17, 0x699ae9f52cbe4794, 0x44bcacaa59d883e1, 0xe05a24800edfeef2},
		{63, 0x958a324ceb064572, 0x4fbf7eabf41d4d7c, 0x8825b5ec8cfb55c6},
		{64, 0xacd2c40b8502cad8, 0x0a59d4937632665a, 0x8b19265d1c12cdc7},
		{255, 0xae31f72d619ceecf, 0xcd72dcc14d6d91af, 0x530b60438ed12642},
		{256, 0x5b2189a0c1d87844, 0xdc39f8b2c42fcd30, 0xa32f5d83d655646e},
		{257, 0xec3ad487a1bae050, 0x274b30d9bb0b6d63, 0x0a90b6e5e05c4828},
		{263, 0x87583f45ab0439e6, 0xc37bb57734a3303d, 0xd74d5e676d627952},
		{264, 0xb1c28de42cee8924, 0x0e5bdb5b6ae13fdb, 0xba03cb80d5f8b69e},
		{300, 0x4ae97570bff6537a, 0x83b9e6b91e68d99e, 0xfa90f3fffa7044d2},
		{1000, 0x2858b3e457999452, 0xffade4fb2ad7d753, 0xe16d852e2911b3f6},
	} {
		b := counted(c.n)
		if h := sealstream.Hash(counting(), b); h != c.counting {
			t.Errorf("P6: Hash of %d bytes = %016x, want %016x", c.n, h, c.counting)
		}
		if h := sealstream.Hash(falling(), b); h != c.falling {
			t.Errorf("P6: Hash of %d bytes, falling key = %016x, want %016x", c.n, h, c.falling)
		}
		if h := sealstream.Hash(api.Key{}, b); h != c.zero {
			t.Errorf("P6: Hash of %d bytes, zero key = %016x, want %016x", c.n, h, c.zero)
		}
		if !bytes.Equal(b, counted(c.n)) {
			t.Errorf("P2: Hash wrote into its bytes: %x", b)
		}
	}
	if h := sealstream.Hash(counting(), nil); h != 0x726fdb47dd0e0e31 {
		t.Errorf("P6: Hash of nil = %016x", h)
	}
}

// TestHashTellsHowManyBytes: zero bytes at the end are not those that fill up.
func TestHashTellsHowManyBytes(t *testing.T) {
	seen := map[uint64]int{}
	for n := range 40 {
		h := sealstream.Hash(counting(), make([]byte, n))
		if other, ok := seen[h]; ok {
			t.Errorf("P6: %d and %d zero bytes have one hash", other, n)
		}
		seen[h] = n
	}
}
