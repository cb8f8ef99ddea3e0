package stream

import (
	"slices"

	"mediawire/api"
)

// In is a stream for the side that reads it (P13, P15).
type In struct {
	grant Grant
	read  uint64 // the bytes ahead of it were handed out
	held  []byte // the bytes from read on, with holes
	came  []bool // of held: it is no hole
	high  uint64 // the highest end of a frame that came
	ended bool   // its end is known
	end   uint64
}

// NewIn: a stream of which so many bytes may be unread.
func NewIn(window int) In { return In{grant: NewGrant(window)} }

// Free: how many of its bytes take no room.
func (in *In) Free() uint64 { return in.read }

// HighWith: the highest end of a frame, once one that ends there has come.
func (in *In) HighWith(end uint64) uint64 { return max(in.high, end) }

// EndOf: where a Data frame ends.
func EndOf(f api.Frame) uint64 { return f.Offset + uint64(len(f.Data)) }

// Refuse: what the stream has against a Data frame; OK, if nothing.
func (in *In) Refuse(f api.Frame) api.Errno {
	end := EndOf(f)
	switch {
	case in.ended && end > in.end, in.ended && f.Fin && end != in.end, f.Fin && end < in.high:
		return api.ErrFinal
	case !in.grant.Allows(end):
		return api.ErrFlow
	}
	return api.OK
}

// Take: a Data frame came that is not refused.
func (in *In) Take(f api.Frame) {
	in.high = in.HighWith(EndOf(f))
	if f.Fin {
		in.ended, in.end = true, EndOf(f)
	}
	known := min(in.read-min(in.read, f.Offset), uint64(len(f.Data)))
	in.hold(f.Offset+known, f.Data[known:])
}

// hold keeps bytes that lie at read or behind it. What is there already stays.
func (in *In) hold(offset uint64, data string) {
	if data == "" {
		return
	}
	from := int(offset - in.read)
	if more := from + len(data) - len(in.held); more > 0 {
		in.held = append(in.held, make([]byte, more)...)
		in.came = append(in.came, make([]bool, more)...)
	}
	for k := range len(data) {
		if !in.came[from+k] {
			in.held[from+k], in.came[from+k] = data[k], true
		}
	}
}

// ready: how many bytes there are ahead of the first hole.
func (in *In) ready() int {
	if hole := slices.Index(in.came, false); hole >= 0 {
		return hole
	}
	return len(in.came)
}

// Read: its next bytes, most at the most, and its state behind them.
func (in *In) Read(most int) ([]byte, int) {
	n := min(in.ready(), max(most, 0))
	b := in.cut(n)
	if in.ended && in.read == in.end {
		return b, api.Finished
	}
	return b, api.Open
}

// cut takes the first n bytes out of those that are held: they become the caller's.
func (in *In) cut(n int) []byte {
	if n == 0 {
		return nil
	}
	b := make([]byte, n)
	copy(b, in.held)
	in.held = slices.Delete(in.held, 0, n)
	in.came = slices.Delete(in.came, 0, n)
	in.read += uint64(n)
	return b
}

// Grant: what the other side was granted of it.
func (in *In) Grant() *Grant { return &in.grant }

// GrantWaits: the other side should be told of more room. (Behind a known end it needs none.)
func (in *In) GrantWaits() bool { return !in.ended && in.grant.Waits(in.read) }

// NextGrant: the MaxStream frame of the stream, which is that of number k; false, if it has no room.
func (in *In) NextGrant(k int, room int) (api.Frame, bool) {
	return in.grant.Next(api.Frame{Kind: api.MaxStream, Stream: k}, in.read, room)
}
