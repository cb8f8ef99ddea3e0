package side

import (
	"slices"

	"mediawire/api"
	"mediawire/wire"
)

// Packets: what is to be sent now (P10, P11).
func (s *Side) Packets() [][]byte {
	if !s.open() {
		return s.part()
	}
	q := s.sources()
	var l [][]byte
	for {
		frames := q.fill(wire.Room(s.MTU, s.next))
		if frames == nil {
			return l
		}
		l = append(l, s.packet(frames))
	}
}

// part: why the side is closed, once.
func (s *Side) part() [][]byte {
	if s.parted {
		return nil
	}
	s.parted = true
	return [][]byte{s.packet([]api.Frame{{Kind: api.Close, Limit: uint64(s.why)}})}
}

// packet: the next packet, with these frames, goes on its way.
func (s *Side) packet(frames []api.Frame) []byte {
	p := api.Packet{Number: s.next, Frames: frames}
	s.next++
	if wantsAnswer(frames) {
		s.onWay.add(p.Number)
	}
	b, _ := wire.Encode(p) // no error: a side makes no frame that P4 has something against
	return b
}

// wantsAnswer: there is another frame than Acks.
func wantsAnswer(frames []api.Frame) bool {
	return slices.ContainsFunc(frames, func(f api.Frame) bool { return f.Kind != api.Ack })
}
