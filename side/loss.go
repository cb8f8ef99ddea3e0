package side

import (
	"maps"

	"mediawire/api"
)

// lateAcks: a lost packet is remembered until so many others were sent: an Ack of it may only be late, and what it names need not be sent once more.
const lateAcks = 64

// book is kept of all that must come to the other side: of a stream's bytes and end, of its being given up, of a grant.
type book interface {
	Away(f api.Frame) // the frame is on its way
	Came(f api.Frame) // an Ack has named a packet that holds it
	Lose()            // nothing is on its way but what Away tells from now on
}

// bookOf: that in which a frame is written down.
func (s *Side) bookOf(f api.Frame) book {
	switch f.Kind {
	case api.Data:
		return &s.streams[f.Stream].out
	case api.ResetAt:
		return s.streams[f.Stream].out.Notice()
	case api.MaxStream:
		return s.streams[f.Stream].in.Grant()
	}
	return &s.grant
}

// books: all that are kept.
func (s *Side) books() []book {
	l := []book{&s.grant}
	for k := range s.streams {
		x := &s.streams[k]
		l = append(l, &x.out, x.out.Notice(), x.in.Grant())
	}
	return l
}

// land: an Ack names these packets. (The first range has the greatest numbers.)
func (s *Side) land(named []api.Range) {
	s.named = max(s.named, named[0].Hi+1)
	isNamed := func(n uint64, _ parcel) bool { return names(named, n) }
	for _, from := range []flight{s.onWay, s.lost} {
		for f := range from.take(isNamed).frames() {
			s.bookOf(f).Came(f)
		}
	}
}

func names(l []api.Range, n uint64) bool {
	for _, r := range l {
		if r.Lo <= n && n <= r.Hi {
			return true
		}
	}
	return false
}

// lose: packets that are lost are no longer on their way, and what they hold waits again (P16).
func (s *Side) lose() {
	lost := s.onWay.take(s.isLost)
	if len(lost) == 0 {
		return
	}
	maps.Copy(s.lost, lost)
	maps.DeleteFunc(s.lost, func(n uint64, _ parcel) bool { return n+lateAcks < s.next })
	for _, b := range s.books() {
		b.Lose()
	}
	for f := range s.onWay.frames() {
		s.bookOf(f).Away(f)
	}
}

func (s *Side) isLost(n uint64, p parcel) bool {
	return s.tick-p.tick >= api.LossTime || n+api.LossGap < s.named
}
