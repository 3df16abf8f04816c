// Package siphash is SipHash-2-4 (P6).
package siphash

import (
	"math/bits"

	"sealstream/api"
)

// state is the four numbers of a hash that is under way.
type state [4]uint64

// Sum is the hash of the bytes.
func Sum(key api.Key, b []byte) uint64 {
	s := begin(key)
	var last [8]byte
	last[7] = byte(len(b))
	for len(b) >= 8 {
		s.mix(lowestFirst(b[:8]))
		b = b[8:]
	}
	// At most seven bytes are left, so how many there were stays behind them.
	copy(last[:], b)
	s.mix(lowestFirst(last[:]))
	return s.end()
}

func begin(key api.Key) state {
	k0, k1 := lowestFirst(key[:8]), lowestFirst(key[8:])
	return state{
		k0 ^ 0x736f6d6570736575,
		k1 ^ 0x646f72616e646f6d,
		k0 ^ 0x6c7967656e657261,
		k1 ^ 0x7465646279746573,
	}
}

func (s *state) mix(m uint64) {
	s[3] ^= m
	s.rounds(2)
	s[0] ^= m
}

func (s *state) end() uint64 {
	s[2] ^= 255
	s.rounds(4)
	return s[0] ^ s[1] ^ s[2] ^ s[3]
}

func (s *state) rounds(n int) {
	for range n {
		s.round()
	}
}

func (s *state) round() {
	s[0] += s[1]
	s[1] = bits.RotateLeft64(s[1], 13) ^ s[0]
	s[0] = bits.RotateLeft64(s[0], 32)
	s[2] += s[3]
	s[3] = bits.RotateLeft64(s[3], 16) ^ s[2]
	s[0] += s[3]
	s[3] = bits.RotateLeft64(s[3], 21) ^ s[0]
	s[2] += s[1]
	s[1] = bits.RotateLeft64(s[1], 17) ^ s[2]
	s[2] = bits.RotateLeft64(s[2], 32)
}

func lowestFirst(b []byte) uint64 {
	var n uint64
	for i, x := range b {
		n |= uint64(x) << (8 * i)
	}
	return n
}
