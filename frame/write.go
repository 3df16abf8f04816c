package frame

import "sealstream/api"

// Encode writes frames one behind the other (P4).
func Encode(l []api.Frame) ([]byte, error) {
	if len(l) == 0 {
		return nil, api.ErrFrame
	}
	var b []byte
	table := shapes()
	for _, f := range l {
		s, known := shapeOf(table, f)
		if !known || !allowed(f) {
			return nil, api.ErrFrame
		}
		b = s.write(b, f)
	}
	return b, nil
}

func (s shape) write(b []byte, f api.Frame) []byte {
	b = append(b, s.first)
	for _, p := range s.parts {
		b = p.write(b, f)
	}
	return b
}

// allowed tells whether P4 lets a frame of a known kind be written.
func allowed(f api.Frame) bool {
	if f.Offset > api.MaxValue || f.Code > api.MaxValue {
		return false
	}
	if f.Stream < 0 || f.Stream >= api.MaxStreams {
		return false
	}
	switch f.Kind {
	case api.Ack:
		return falling(f.Ranges)
	case api.Data:
		return uint64(len(f.Data)) <= api.MaxValue-f.Offset
	}
	return true
}

// falling tells whether each range is one, and lies below the one ahead with a number or more between.
func falling(l []api.Range) bool {
	for i, r := range l {
		if r.Lo > r.Hi || r.Hi > api.MaxValue {
			return false
		}
		if i > 0 && r.Hi+1 >= l[i-1].Lo {
			return false
		}
	}
	return len(l) > 0
}

// appendNumber writes n, which is below 2^62, as short as can be.
func appendNumber(b []byte, n uint64) []byte {
	power := powerOf(n)
	bits := 8 << power
	n |= uint64(power) << (bits - 2)
	for shift := bits - 8; shift >= 0; shift -= 8 {
		b = append(b, byte(n>>shift))
	}
	return b
}

// powerOf is the first two bits of a number: the power of two that says in how many bytes it stands.
func powerOf(n uint64) int {
	switch {
	case n < 1<<6:
		return 0
	case n < 1<<14:
		return 1
	case n < 1<<30:
		return 2
	}
	return 3
}

func appendRanges(b []byte, l []api.Range) []byte {
	b = appendNumber(b, l[0].Hi)
	b = appendNumber(b, uint64(len(l)-1))
	b = appendNumber(b, l[0].Hi-l[0].Lo)
	for i, r := range l[1:] {
		b = appendNumber(b, l[i].Lo-r.Hi-2) // l[i] is the range ahead of r
		b = appendNumber(b, r.Hi-r.Lo)
	}
	return b
}
