package wire

import "mediawire/api"

// reader goes through the bytes of a packet ahead of its sum.
type reader struct {
	bytes []byte
	at    int // the next byte
	begin int // where the frame that is being read begins (0: the number is): the place of a fault
}

// fail throws the fault that readPacket catches.
func (r *reader) fail() {
	panic(&api.Fault{Err: api.ErrFrame, At: r.begin})
}

func (r *reader) ended() bool { return r.at == len(r.bytes) }

// take hands out the next n bytes. They are the packet's own: what is kept of them is copied.
func (r *reader) take(n uint64) []byte {
	if n > uint64(len(r.bytes)-r.at) {
		r.fail()
	}
	from := r.at
	r.at += int(n)
	return r.bytes[from:r.at]
}

func (r *reader) byte() byte { return r.take(1)[0] }

func (r *reader) number() uint64 {
	first := r.byte()
	n := uint64(first & 0x3f)
	for _, x := range r.take(1<<(first>>6) - 1) {
		n = n<<8 | uint64(x)
	}
	return n
}

// less is n less by, where numbers end at 0.
func (r *reader) less(n, by uint64) uint64 {
	if by > n {
		r.fail()
	}
	return n - by
}

func (r *reader) frame() api.Frame {
	r.begin = r.at
	f := api.Frame{Kind: kindOf(r.bytes[r.at])}
	if !isKind(f.Kind) {
		r.fail()
	}
	layoutOf(f.Kind).read(r, &f)
	if !soundFrame(&f) {
		r.fail()
	}
	return f
}
