// Package seal seals packets and opens them (P7).
package seal

import (
	"iter"

	"sealstream/api"
	"sealstream/siphash"
)

// What a hash is for: its second byte, so that no tag is ever a piece of a mask.
const (
	_ byte = iota
	forMask
	forTag
)

// word is a number as eight bytes, the highest first: a packet's number, a piece of the mask, a tag.
type word [wordSize]byte

const wordSize = 8

// Seal makes a packet of the bytes.
func Seal(key api.Key, first bool, number uint64, b []byte) []byte {
	p := make([]byte, api.Overhead+len(b))
	head := wordOf(number)
	copy(p, head[:])
	body := p[wordSize : wordSize+len(b)]
	copy(body, b)
	cover(body, key, sideByte(first), number)
	tag := tagOf(key, sideByte(first), number, body)
	copy(p[wordSize+len(b):], tag[:])
	return p
}

// Unseal is the number and the bytes of a packet that the first side sealed, or the other.
func Unseal(key api.Key, first bool, p []byte) (uint64, []byte, error) {
	if len(p) < api.Overhead || len(p) > api.MaxMTU {
		return 0, nil, api.ErrSeal
	}
	end := len(p) - wordSize
	number, body, tag := wordAt(p).number(), p[wordSize:end], wordAt(p[end:])
	if number > api.MaxValue || tag != tagOf(key, sideByte(first), number, body) {
		return 0, nil, api.ErrSeal
	}
	if len(body) == 0 {
		return number, nil, nil
	}
	b := make([]byte, len(body))
	copy(b, body)
	cover(b, key, sideByte(first), number)
	return number, b, nil
}

func sideByte(first bool) byte {
	if first {
		return 0
	}
	return 1
}

// cover xors the bytes with the mask, in their place; a second time uncovers them.
func cover(b []byte, key api.Key, side byte, number uint64) {
	i := 0
	for m := range mask(key, side, number) {
		if i == len(b) {
			break
		}
		b[i] ^= m
		i++
	}
}

// mask does not end: who ranges over it breaks.
func mask(key api.Key, side byte, number uint64) iter.Seq[byte] {
	return func(yield func(byte) bool) {
		for i := byte(0); ; i++ { // goes around behind 255
			piece := siphash.Sum(key, append(opening(side, forMask, number), i))
			for _, m := range wordOf(piece) {
				if !yield(m) {
					return
				}
			}
		}
	}
}

// tagOf is the tag of bytes that are masked already.
func tagOf(key api.Key, side byte, number uint64, masked []byte) word {
	return wordOf(siphash.Sum(key, append(opening(side, forTag, number), masked...)))
}

// opening is how all begins that is hashed for a packet.
func opening(side, use byte, number uint64) []byte {
	n := wordOf(number)
	return append([]byte{side, use}, n[:]...)
}

func wordOf(n uint64) word {
	var w word
	for i := range w {
		w[i] = byte(n >> (56 - 8*i))
	}
	return w
}

// wordAt is the word with which the bytes begin.
func wordAt(b []byte) word {
	var w word
	copy(w[:], b)
	return w
}

func (w word) number() uint64 {
	var n uint64
	for _, x := range w {
		n = n<<8 | uint64(x)
	}
	return n
}
