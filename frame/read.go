package frame

import "sealstream/api"

// reader goes through bytes, and throws where they are no frame: only Decode catches that.
type reader struct {
	bytes []byte
	at    int
	start int // where the frame that is being read begins: the place of its fault
}

// Decode reads frames up to the end of the bytes (P5).
func Decode(b []byte) (l []api.Frame, err error) {
	r := reader{bytes: b}
	defer func() {
		// Whatever was thrown, it was at the frame that was being read: no call panics.
		if recover() != nil {
			l, err = nil, &api.Fault{Err: api.ErrFrame, At: r.start}
		}
	}()
	if len(b) == 0 {
		r.refuse()
	}
	table := shapes()
	for r.at < len(b) {
		l = append(l, r.frame(table))
	}
	return l, nil
}

func (r *reader) refuse() {
	panic(api.ErrFrame)
}

func (r *reader) frame(table []shape) api.Frame {
	r.start = r.at
	s, known := shapeAt(table, r.take(1)[0])
	if !known {
		r.refuse()
	}
	f := api.Frame{Kind: s.kind, Fin: s.fin}
	for _, p := range s.parts {
		p.read(r, &f)
	}
	if !allowed(f) {
		r.refuse()
	}
	return f
}

// take is the next n bytes, which stay the caller's: what is kept of them is copied.
func (r *reader) take(n uint64) []byte {
	// Held against what is left as it came: as an int, n may be below zero.
	if n > uint64(len(r.bytes)-r.at) {
		r.refuse()
	}
	from := r.at
	r.at += int(n)
	return r.bytes[from:r.at]
}

func (r *reader) number() uint64 {
	first := r.take(1)[0]
	n := uint64(first & 0x3f)
	for _, x := range r.take(1<<(first>>6) - 1) {
		n = n<<8 | uint64(x)
	}
	return n
}

func (r *reader) stream() int {
	n := r.number()
	if n >= api.MaxStreams {
		r.refuse()
	}
	return int(n)
}

// less is a less b; below zero there are no numbers.
func (r *reader) less(a, b uint64) uint64 {
	if b > a {
		r.refuse()
	}
	return a - b
}

func (r *reader) ranges() []api.Range {
	hi := r.number()
	more := r.number()
	lo := r.less(hi, r.number())
	l := []api.Range{{Lo: lo, Hi: hi}}
	// No room is made for all of them ahead: more may be any number, and the bytes end first.
	for range more {
		hi = r.less(lo, r.number()+2)
		lo = r.less(hi, r.number())
		l = append(l, api.Range{Lo: lo, Hi: hi})
	}
	return l
}
