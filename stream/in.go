package stream

import (
	"slices"

	"mediawire/api"
)

// In is a stream for the side that reads it (P13, P15, P20).
type In struct {
	grant    Grant
	read     uint64 // the bytes ahead of it were handed out
	held     []byte // the bytes from read on, with holes
	came     []bool // of held: it is no hole
	high     uint64 // the highest end of a Data frame that came
	ended    bool   // its end is known
	end      uint64
	given    bool   // it was given up
	reliable uint64 // if it was: the bytes ahead of it will come, and no others are handed out
	state    int    // what its reader was told of it
}

// NewIn: a stream of which so many bytes may be unread.
func NewIn(window int) In { return In{grant: NewGrant(window)} }

// Free: how many of its bytes take no room. (Once its reader knows that it was given up, none that is still to come does.)
func (in *In) Free() uint64 {
	if in.state == api.Reset {
		return in.end
	}
	return in.read
}

// HighWith: the highest end of a frame, once one that ends there has come.
func (in *In) HighWith(end uint64) uint64 { return max(in.high, end) }

// EndOf: where a Data frame ends.
func EndOf(f api.Frame) uint64 { return f.Offset + uint64(len(f.Data)) }

// Refuse: what the stream has against a Data frame; OK, if nothing.
func (in *In) Refuse(f api.Frame) api.Errno {
	end := EndOf(f)
	switch {
	case in.ended && end > in.end, in.ended && f.Fin && end != in.end, f.Fin && end < in.high:
		return api.ErrFinal
	case !in.grant.Allows(end):
		return api.ErrFlow
	}
	return api.OK
}

// Take: a Data frame came that is not refused.
func (in *In) Take(f api.Frame) {
	in.high = in.HighWith(EndOf(f))
	if f.Fin {
		in.ended, in.end = true, EndOf(f)
	}
	lo, hi := max(f.Offset, in.read), min(EndOf(f), in.wanted())
	if lo < hi {
		in.hold(lo, f.Data[lo-f.Offset:hi-f.Offset])
	}
}

// RefuseReset: what the stream has against a ResetAt frame; OK, if nothing.
func (in *In) RefuseReset(f api.Frame) api.Errno {
	if in.ended && in.end != f.Offset || in.high > f.Offset {
		return api.ErrFinal
	}
	return api.OK
}

// TakeReset: a ResetAt frame came that is not refused.
func (in *In) TakeReset(f api.Frame) {
	in.reliable = min(in.wanted(), f.Reliable)
	in.given = true
	in.ended, in.end = true, f.Offset
	in.forget()
}

// wanted: the bytes ahead of it are handed out when they come.
func (in *In) wanted() uint64 {
	switch {
	case in.given:
		return in.reliable
	case in.ended:
		return in.end
	}
	return api.MaxValue
}

// forget lets go of bytes that came, and will not be handed out any more.
func (in *In) forget() {
	n := min(uint64(len(in.held)), in.wanted()-min(in.wanted(), in.read))
	in.held = slices.Clone(in.held[:n])
	in.came = slices.Clone(in.came[:n])
}

// hold keeps bytes that lie at read or behind it. What is there already stays.
func (in *In) hold(offset uint64, data string) {
	from := int(offset - in.read)
	if more := from + len(data) - len(in.held); more > 0 {
		in.held = append(in.held, make([]byte, more)...)
		in.came = append(in.came, make([]bool, more)...)
	}
	for k := range len(data) {
		if !in.came[from+k] {
			in.held[from+k], in.came[from+k] = data[k], true
		}
	}
}

// ready: how many bytes there are ahead of the first hole.
func (in *In) ready() int {
	if hole := slices.Index(in.came, false); hole >= 0 {
		return hole
	}
	return len(in.came)
}

// Read: its next bytes, most at the most, and its state behind them.
func (in *In) Read(most int) ([]byte, int) {
	b := in.cut(min(in.ready(), max(most, 0)))
	if in.state == api.Open { // another state stays, even if a ResetAt frame comes behind it
		in.state = in.reached()
	}
	return b, in.state
}

// reached: the state that the bytes which were read have led to.
func (in *In) reached() int {
	switch {
	case !in.ended || in.read < in.wanted():
		return api.Open
	case in.given:
		return api.Reset
	}
	return api.Finished
}

// cut takes the first n bytes out of those that are held: they become the caller's.
func (in *In) cut(n int) []byte {
	if n == 0 {
		return nil
	}
	b := make([]byte, n)
	copy(b, in.held)
	in.held = slices.Delete(in.held, 0, n)
	in.came = slices.Delete(in.came, 0, n)
	in.read += uint64(n)
	return b
}

// Grant: what the other side was granted of it.
func (in *In) Grant() *Grant { return &in.grant }

// GrantWaits: the other side should be told of more room. (If a frame came that ends where its last bytes do, or behind them, it has room for all.)
func (in *In) GrantWaits() bool {
	enough := in.ended && in.high >= in.wanted()
	return !enough && in.grant.Waits(in.Free())
}

// NextGrant: the MaxStream frame of the stream, which is that of number k; false, if it has no room.
func (in *In) NextGrant(k int, room int) (api.Frame, bool) {
	return in.grant.Next(api.Frame{Kind: api.MaxStream, Stream: k}, in.Free(), room)
}
