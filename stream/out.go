package stream

import (
	"mediawire/api"
	"mediawire/numbers"
	"mediawire/wire"
)

// Out is a stream for the side that writes it (P9, P11, P16, P20). The place of a byte is its offset; the place of the stream's end is that behind its last byte.
type Out struct {
	bytes    []byte // all that were written; of a stream that was given up those that will still be sent
	finished bool
	notice   Notice      // that it was given up
	limit    uint64      // the other side has granted the bytes ahead of it
	sent     uint64      // the bytes ahead of it were sent, once or more often
	away     numbers.Set // the places that are on their way, or came
	came     numbers.Set // those that came to the other side for sure
}

// manyPlaces: a set of a stream's places never has so many ranges, and so no floor.
const manyPlaces = api.MaxBuffer + 1

// NewOut: a stream of which the other side has granted so many bytes.
func NewOut(limit int) Out {
	return Out{
		limit: uint64(limit),
		away:  numbers.NewSet(manyPlaces),
		came:  numbers.NewSet(manyPlaces),
	}
}

// Send: the bytes are the stream's next ones.
func (o *Out) Send(b []byte) error {
	switch {
	case o.closed():
		return api.ErrState
	case len(b) > api.MaxBuffer-len(o.bytes):
		return api.ErrFull
	}
	o.bytes = append(o.bytes, b...)
	return nil
}

// Finish: the stream ends here.
func (o *Out) Finish() error {
	if o.closed() {
		return api.ErrState
	}
	o.finished = true
	return nil
}

// closed: no more bytes can be written to it.
func (o *Out) closed() bool { return o.finished || o.notice.given }

// Reset: the stream is given up, but for its first keep bytes. (Those that were given up ahead of that stay so: they are gone.)
func (o *Out) Reset(keep int) {
	n := min(max(keep, 0), len(o.bytes))
	o.bytes = o.bytes[:n:n]
	o.notice.give(max(o.sent, o.length()))
}

// Notice: what the other side was told of its being given up.
func (o *Out) Notice() *Notice { return &o.notice }

// NoticeWaits: the other side is to be told that it was given up.
func (o *Out) NoticeWaits() bool { return o.notice.waits(o.length()) }

// NextNotice: the ResetAt frame of the stream, which is that of number k; false, if it has no room.
func (o *Out) NextNotice(k int, room int) (api.Frame, bool) {
	return o.notice.next(k, o.length(), room)
}

// Allow: the other side grants the bytes ahead of limit. (One that lies lower came late: it takes nothing back.)
func (o *Out) Allow(limit uint64) { o.limit = max(o.limit, limit) }

// Sent: the end of its bytes that were sent.
func (o *Out) Sent() uint64 { return o.sent }

func (o *Out) length() uint64 { return uint64(len(o.bytes)) }

// reach: where its bytes may end now, if all streams together may go on by credit.
func (o *Out) reach(credit uint64) uint64 {
	return min(o.length(), o.limit, o.sent+credit)
}

// endsAt: a frame that ends there has its last bytes, and says so. (That a stream was given up its notice says.)
func (o *Out) endsAt(end uint64) bool {
	return o.finished && !o.notice.given && end == o.length()
}

// waiting: the first places that may be sent now: from lo on, ahead of hi. Whether they were lost or never sent is all one.
func (o *Out) waiting(credit uint64) (lo uint64, hi uint64) {
	end := o.reach(credit)
	if o.endsAt(end) {
		end++
	}
	return o.away.Hole(end)
}

// Waits: bytes, or its end, may be sent now.
func (o *Out) Waits(credit uint64) bool {
	lo, hi := o.waiting(credit)
	return lo < hi
}

// Next: the next Data frame of the stream, which is that of number k; false, if what waits has no room.
func (o *Out) Next(k int, room int, credit uint64) (api.Frame, bool) {
	lo, hi := o.waiting(credit)
	hi = min(hi, o.length())
	f, ok := wire.Fill(api.Frame{Kind: api.Data, Stream: k, Offset: lo}, o.bytes[lo:hi:hi], room)
	if !ok || lo < hi && f.Data == "" {
		return api.Frame{}, false
	}
	f.Fin = o.endsAt(EndOf(f))
	o.sent = max(o.sent, EndOf(f))
	o.Away(f)
	return f, true
}

// Away: a Data frame is on its way.
func (o *Out) Away(f api.Frame) { addPlaces(&o.away, f) }

// Came: a Data frame came to the other side.
func (o *Out) Came(f api.Frame) {
	addPlaces(&o.came, f)
	o.Away(f)
}

// Lose: what did not come is no longer on its way.
func (o *Out) Lose() { o.away = o.came.Clone() }

// addPlaces: those of a Data frame's bytes, and of the end, if it tells that. (It has one of them at least.)
func addPlaces(s *numbers.Set, f api.Frame) {
	last := EndOf(f)
	if !f.Fin {
		last--
	}
	s.Add(f.Offset, last)
}
