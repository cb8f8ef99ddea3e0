package stream

import (
	"mediawire/api"
	"mediawire/wire"
)

// Out is a stream for the side that writes it (P9, P11).
type Out struct {
	bytes    []byte // all that were written
	finished bool
	limit    uint64 // the other side has granted the bytes ahead of it
	sent     uint64 // the bytes ahead of it were sent
	endSent  bool
}

// NewOut: a stream of which the other side has granted so many bytes.
func NewOut(limit int) Out { return Out{limit: uint64(limit)} }

// Send: the bytes are the stream's next ones.
func (o *Out) Send(b []byte) error {
	switch {
	case o.finished:
		return api.ErrState
	case len(b) > api.MaxBuffer-len(o.bytes):
		return api.ErrFull
	}
	o.bytes = append(o.bytes, b...)
	return nil
}

// Finish: the stream ends here.
func (o *Out) Finish() error {
	if o.finished {
		return api.ErrState
	}
	o.finished = true
	return nil
}

// Allow: the other side grants the bytes ahead of limit. (One that lies lower came late: it takes nothing back.)
func (o *Out) Allow(limit uint64) { o.limit = max(o.limit, limit) }

// Sent: the end of its bytes that were sent.
func (o *Out) Sent() uint64 { return o.sent }

func (o *Out) length() uint64 { return uint64(len(o.bytes)) }

// reach: where its bytes may end now, if all streams together may go on by credit.
func (o *Out) reach(credit uint64) uint64 {
	return min(o.length(), o.limit, o.sent+credit)
}

// endsAt: a frame that ends there has its last bytes, and says so.
func (o *Out) endsAt(end uint64) bool { return o.finished && end == o.length() }

// Waits: bytes, or its end, may be sent now.
func (o *Out) Waits(credit uint64) bool {
	return o.reach(credit) > o.sent || o.endsAt(o.sent) && !o.endSent
}

// Next: the next Data frame of the stream, which is that of number k; false, if what waits has no room.
func (o *Out) Next(k int, room int, credit uint64) (api.Frame, bool) {
	bytes := o.bytes[o.sent:o.reach(credit)]
	f, ok := wire.Fill(api.Frame{Kind: api.Data, Stream: k, Offset: o.sent}, bytes, room)
	if !ok || len(bytes) > 0 && len(f.Data) == 0 {
		return api.Frame{}, false
	}
	o.sent += uint64(len(f.Data))
	f.Fin = o.endsAt(o.sent)
	o.endSent = f.Fin
	return f, true
}
