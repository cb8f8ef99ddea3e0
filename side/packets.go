package side

import (
	"slices"

	"mediawire/api"
	"mediawire/wire"
)

// Packets: what is to be sent now (P10, P11, P16, P18, P21).
func (s *Side) Packets() [][]byte {
	if !s.open() {
		return s.part()
	}
	s.lose()
	q := s.sources()
	var l [][]byte
	for {
		frames := q.fill(wire.Room(s.MTU, s.next))
		if frames == nil {
			return l
		}
		l = append(l, s.packet(frames))
	}
}

// part: why the side is closed, once. (Where the other side has closed, it knows.)
func (s *Side) part() [][]byte {
	if s.parted || s.why == api.ErrPeer {
		return nil
	}
	s.parted = true
	f := api.Frame{Kind: api.Close, Limit: uint64(s.why)}
	if s.why == api.ErrClosed { // its caller has closed it: that is no error
		f.Limit = 0
	}
	return [][]byte{s.packet([]api.Frame{f})}
}

// packet: the next packet, with these frames, goes on its way.
func (s *Side) packet(frames []api.Frame) []byte {
	p := api.Packet{Number: s.next, Frames: frames}
	s.next++
	if wantsAnswer(frames) {
		s.onWay[p.Number] = parcel{frames: toSendAgain(frames), tick: s.tick}
	}
	b, _ := wire.Encode(p) // no error: a side makes no frame that P4 has something against
	return b
}

// wantsAnswer: a packet of these frames holds another one than Acks: an Ack must name it.
func wantsAnswer(frames []api.Frame) bool {
	return slices.ContainsFunc(frames, func(f api.Frame) bool { return f.Kind != api.Ack })
}

// toSendAgain: those of the frames whose message must come, if need be with another packet.
func toSendAgain(frames []api.Frame) []api.Frame {
	return slices.DeleteFunc(slices.Clone(frames), func(f api.Frame) bool {
		return f.Kind == api.Ack || f.Kind == api.Datagram || f.Kind == api.Close
	})
}
