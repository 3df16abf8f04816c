package frame

import "sealstream/api"

// kindAndStream is how many bytes stand ahead of a frame's other numbers.
const kindAndStream = 2

// MostData is how many bytes a Data frame from that offset on holds, if it has that much room; below zero: there is none even for its head.
func MostData(offset uint64, room int) int {
	room -= kindAndStream + sizeOf(offset)
	n := room - 1
	for n > 0 && sizeOf(uint64(n))+n > room {
		n--
	}
	return n
}

// ResetSize is how many bytes a Reset frame has.
func ResetSize(offset, code uint64) int {
	return kindAndStream + sizeOf(code) + sizeOf(offset)
}

// MostRanges is how many of the first of these ranges an Ack holds, if it has that much room.
func MostRanges(l []api.Range, room int) int {
	n := len(l)
	for n > 0 && 1+len(appendRanges(nil, l[:n])) > room {
		n--
	}
	return n
}

// sizeOf is in how many bytes a number stands.
func sizeOf(n uint64) int { return 1 << powerOf(n) }
