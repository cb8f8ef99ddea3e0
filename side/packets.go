package side

import (
	"slices"

	"mediawire/api"
	"mediawire/wire"
)

// Packets: what is to be sent now (P10, P11, P16).
func (s *Side) Packets() [][]byte {
	if !s.open() {
		return s.part()
	}
	s.lose()
	q := s.sources()
	var l [][]byte
	for {
		frames := q.fill(wire.Room(s.MTU, s.next))
		if frames == nil {
			return l
		}
		l = append(l, s.packet(frames))
	}
}

// part: why the side is closed, once.
func (s *Side) part() [][]byte {
	if s.parted {
		return nil
	}
	s.parted = true
	return [][]byte{s.packet([]api.Frame{{Kind: api.Close, Limit: uint64(s.why)}})}
}

// packet: the next packet, with these frames, goes on its way.
func (s *Side) packet(frames []api.Frame) []byte {
	p := api.Packet{Number: s.next, Frames: frames}
	s.next++
	if l := toAnswer(frames); len(l) > 0 {
		s.onWay[p.Number] = parcel{frames: l, tick: s.tick}
	}
	b, _ := wire.Encode(p) // no error: a side makes no frame that P4 has something against
	return b
}

// toAnswer: the frames of a packet other than Acks. Where there is one, an Ack must name the packet.
func toAnswer(frames []api.Frame) []api.Frame {
	return slices.DeleteFunc(slices.Clone(frames), func(f api.Frame) bool { return f.Kind == api.Ack })
}
