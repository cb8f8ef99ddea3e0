package side

import (
	"slices"

	"mediawire/api"
	"mediawire/wire"
)

// sources: where the frames of the next packets come from.
func (s *Side) sources() *sources {
	q := &sources{}
	q.add(s.acks())
	q.add(s.besideDatagrams(s.maxData()))
	for k := range s.streams {
		q.add(s.besideDatagrams(s.maxStream(k)))
		q.add(s.besideDatagrams(s.resetAt(k)))
		q.add(s.whileRoom(s.data(k)))
	}
	q.add(s.whileRoom(s.datagrams()))
	return q
}

// whileRoom: the source, while fewer packets are on their way than may be. (Acks need no such room.)
func (s *Side) whileRoom(x source) source {
	waits := x.waits
	x.waits = func() bool { return !s.onWay.full() && waits() }
	return x
}

// besideDatagrams: the source, as far as it leaves room in the packet for a datagram that waits: so no datagram waits for the sake of a grant, and grants go beside however many datagrams.
func (s *Side) besideDatagrams(x source) source {
	next := x.next
	x.next = func(room int) (api.Frame, bool) { return next(room - s.queue.Size()) }
	x.yields = true
	return s.whileRoom(x)
}

// acks names all packets that are remembered, not the new ones alone: an Ack ahead may have been lost.
func (s *Side) acks() source {
	a := &answers{}
	if s.answer {
		a.left = slices.Collect(s.came.Down())
	}
	s.answer = false
	return source{urgency: ofAcks, waits: a.wait, next: a.next}
}

// answers: the ranges that Acks are still to name.
type answers struct {
	left []api.Range
}

func (a *answers) wait() bool { return len(a.left) > 0 }

// next: an Ack of as many ranges as have room.
func (a *answers) next(room int) (api.Frame, bool) {
	for n := len(a.left); n > 0; n-- {
		f := api.Frame{Kind: api.Ack, Ranges: a.left[:n:n]}
		if wire.Size(f) <= room {
			a.left = a.left[n:]
			return f, true
		}
	}
	return api.Frame{}, false
}

// maxData grants more of all streams.
func (s *Side) maxData() source {
	return source{
		urgency: ofMaxData,
		waits:   func() bool { return s.grant.Waits(s.free()) },
		next: func(room int) (api.Frame, bool) {
			return s.grant.Next(api.Frame{Kind: api.MaxData}, s.free(), room)
		},
	}
}

// free: how many bytes of all streams that came take no room.
func (s *Side) free() uint64 {
	sum := uint64(0)
	for k := range s.streams {
		sum = min(sum+s.streams[k].in.Free(), api.MaxValue) // each may be as great as that: the end of a stream that was given up
	}
	return sum
}

// maxStream grants more of a stream.
func (s *Side) maxStream(k int) source {
	in := &s.streams[k].in
	return source{
		urgency: ofMaxStream + k,
		waits:   in.GrantWaits,
		next:    func(room int) (api.Frame, bool) { return in.NextGrant(k, room) },
	}
}

// resetAt tells that a stream was given up.
func (s *Side) resetAt(k int) source {
	out := &s.streams[k].out
	return source{
		urgency: ofResetAt + k,
		waits:   out.NoticeWaits,
		next:    func(room int) (api.Frame, bool) { return out.NextNotice(k, room) },
	}
}

// datagrams sends those that wait. While one does, there is no room for bytes of streams.
func (s *Side) datagrams() source {
	return source{urgency: ofDatagrams, waits: s.queue.Waits, next: s.queue.Next}
}

// data sends a stream on: those of smaller numbers ahead of the others.
func (s *Side) data(k int) source {
	out := &s.streams[k].out
	return source{
		urgency: ofData + k,
		waits:   func() bool { return out.Waits(s.credit()) },
		next:    func(room int) (api.Frame, bool) { return out.Next(k, room, s.credit()) },
	}
}

// credit: by how much the ends of all streams together may still rise.
func (s *Side) credit() uint64 {
	left := s.limit
	for k := range s.streams {
		left -= s.streams[k].out.Sent()
	}
	return left
}
