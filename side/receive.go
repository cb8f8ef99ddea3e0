package side

import (
	"errors"

	"mediawire/api"
	"mediawire/stream"
	"mediawire/wire"
)

// Receive: a packet came (P12 to P14, P19 to P21).
func (s *Side) Receive(b []byte) error {
	if !s.open() {
		return api.ErrClosed
	}
	p, err := wire.Decode(b)
	switch {
	case errors.Is(err, api.ErrFrame):
		s.why = api.ErrFrame
		return err
	case err != nil:
		return err
	case s.came.Has(p.Number):
		return nil
	}
	return s.takeAll(p)
}

func (s *Side) takeAll(p api.Packet) error {
	s.came.Add(p.Number, p.Number)
	s.answer = s.answer || wantsAnswer(p.Frames)
	for _, f := range p.Frames {
		if s.why = s.take(f); !s.open() {
			return s.why
		}
	}
	return nil
}

// take: a frame came; OK, or the error that closes the side.
func (s *Side) take(f api.Frame) api.Errno {
	switch f.Kind {
	case api.Ack:
		return s.takeAck(f)
	case api.Data:
		return s.takeData(f)
	case api.ResetAt:
		return s.takeReset(f)
	case api.Close:
		return api.ErrPeer
	case api.Datagram:
		s.inbox.Take(f, s.tick)
	case api.MaxData:
		s.limit = max(s.limit, f.Limit)
	case api.MaxStream:
		s.streams[f.Stream].out.Allow(f.Limit)
	}
	return api.OK
}

// takeAck (P14). The first range has the greatest numbers.
func (s *Side) takeAck(f api.Frame) api.Errno {
	if f.Ranges[0].Hi >= s.next {
		return api.ErrAck
	}
	s.land(f.Ranges)
	return api.OK
}

// takeData (P13).
func (s *Side) takeData(f api.Frame) api.Errno {
	in := &s.streams[f.Stream].in
	if e := in.Refuse(f); e != api.OK {
		return e
	}
	if !s.grant.Allows(s.highsWith(f)) {
		return api.ErrFlow
	}
	in.Take(f)
	return api.OK
}

// takeReset (P20).
func (s *Side) takeReset(f api.Frame) api.Errno {
	in := &s.streams[f.Stream].in
	if e := in.RefuseReset(f); e != api.OK {
		return e
	}
	in.TakeReset(f)
	return api.OK
}

// highsWith: the highest ends of all streams together, once a Data frame has come.
func (s *Side) highsWith(f api.Frame) uint64 {
	sum := uint64(0)
	for k := range s.streams {
		end := uint64(0)
		if k == f.Stream {
			end = stream.EndOf(f)
		}
		sum += s.streams[k].in.HighWith(end)
	}
	return sum
}
