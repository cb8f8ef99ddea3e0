package mediawire_test

import (
	"mediawire/api"
)

// lateAcks: if no more packets than these were sent since a lost one, an Ack of that still counts.
const lateAcks = 64

// flightModel: which packets are on their way, and which are lost (P16).
type flightModel struct {
	tick    uint64
	named   uint64 // the number above the highest one that an Ack has named
	sent    map[uint64]*sentModel
	acked   map[[2]int]uint64 // the highest limit of grants that an Ack has named, by kind and stream
	noticed map[int]uint64    // the least Reliable of ResetAt frames that an Ack has named, by stream
}

// sentModel: a packet with another frame than Acks that no Ack has named.
type sentModel struct {
	tick   uint64
	frames []api.Frame
	lost   bool
}

// placeModel: what is known of a byte of a stream, or of its end.
type placeModel struct {
	onWay int  // so many packets have it that are on their way
	sure  bool // an Ack has named one that has it
	late  bool // likewise, but of one that was lost long ago: it may be sent again all the same
}

func (p placeModel) waits() bool { return p.onWay == 0 && !p.sure && !p.late }

func newFlightModel() flightModel {
	return flightModel{sent: map[uint64]*sentModel{}, acked: map[[2]int]uint64{}, noticed: map[int]uint64{}}
}

// count: how many are on their way.
func (f *flightModel) count() int {
	n := 0
	for _, p := range f.sent {
		if !p.lost {
			n++
		}
	}
	return n
}

func (m *sideModel) clock() {
	m.c.Tick()
	m.flight.tick++
	m.expire()
}

// eachPlace: the places of the bytes and ends that a packet has.
func (m *sideModel) eachPlace(l []api.Frame, do func(p *placeModel)) {
	for _, f := range l {
		if f.Kind != api.Data {
			continue
		}
		for i := range len(f.Data) {
			do(&m.out[f.Stream].places[f.Offset+uint64(i)])
		}
		if f.Fin {
			do(&m.out[f.Stream].places[f.Offset+uint64(len(f.Data))])
		}
	}
}

// takeOff: a packet is sent.
func (m *sideModel) takeOff(p api.Packet) {
	s := &sentModel{tick: m.flight.tick}
	for _, f := range p.Frames {
		if f.Kind != api.Ack {
			s.frames = append(s.frames, f)
		}
	}
	if s.frames == nil {
		return
	}
	m.flight.sent[p.Number] = s
	m.eachPlace(s.frames, func(p *placeModel) { p.onWay++ })
}

// lose: what is lost is no longer on its way.
func (m *sideModel) lose() {
	for n, s := range m.flight.sent {
		if !s.lost && (m.flight.tick-s.tick >= 6 || n+3 < m.flight.named) {
			s.lost = true
			m.eachPlace(s.frames, func(p *placeModel) { p.onWay-- })
		}
	}
}

// land: an Ack came.
func (m *sideModel) land(ack api.Frame) {
	m.flight.named = max(m.flight.named, ack.Ranges[0].Hi+1)
	for n, s := range m.flight.sent {
		for _, r := range ack.Ranges {
			if r.Lo <= n && n <= r.Hi {
				m.landOne(n, s)
			}
		}
	}
}

func (m *sideModel) landOne(n uint64, s *sentModel) {
	delete(m.flight.sent, n)
	known := !s.lost || n+lateAcks >= m.next
	m.eachPlace(s.frames, func(p *placeModel) {
		if !s.lost {
			p.onWay--
		}
		p.sure = p.sure || known
		p.late = true
	})
	for _, f := range s.frames {
		key := [2]int{f.Kind, f.Stream}
		if !known {
			continue
		}
		m.flight.acked[key] = max(m.flight.acked[key], f.Limit)
		if least, told := m.flight.noticed[f.Stream]; f.Kind == api.ResetAt && (!told || f.Reliable < least) {
			m.flight.noticed[f.Stream] = f.Reliable
		}
	}
}

// told: the highest limit of grants of that kind that is on its way, or that an Ack has named.
func (m *sideModel) told(kind int, stream int) uint64 {
	limit := m.flight.acked[[2]int{kind, stream}]
	for _, s := range m.flight.sent {
		for _, f := range s.frames {
			if !s.lost && f.Kind == kind && f.Stream == stream {
				limit = max(limit, f.Limit)
			}
		}
	}
	return limit
}

// grantIsNew: it was not sent yet, or was lost.
func (m *sideModel) grantIsNew(f api.Frame) {
	if told := m.told(f.Kind, f.Stream); told >= f.Limit {
		m.t.Fatalf("P16: %+v is sent, and %d is on its way or came", f, told)
	}
}

// dataIsNew: bytes are sent that were not sent yet, or were lost; or an end.
func (m *sideModel) dataIsNew(f api.Frame) {
	f.Fin = f.Fin && f.Data == "" // behind its last bytes an end must be told again
	m.eachPlace([]api.Frame{f}, func(p *placeModel) {
		if p.onWay > 0 || p.sure {
			m.t.Fatalf("P16: %+v is sent, and is on its way or came: %+v", f, *p)
		}
	})
}

// noGrantLeft: grants that were lost are sent again. (A stream of which a frame came that ends where its last bytes do, or behind them, needs none.)
func (m *sideModel) noGrantLeft() {
	if m.flight.count() >= 12 {
		return
	}
	if told := max(m.told(api.MaxData, 0), uint64(m.Total)); told < m.granted {
		m.t.Fatalf("P16: MaxData %d was lost, and is not sent again", m.granted)
	}
	for k := range m.in {
		told := max(m.told(api.MaxStream, k), uint64(m.Window))
		in := &m.in[k]
		enough := in.ended && in.high >= in.end || in.given && in.high >= in.least
		if told < in.granted && !enough {
			m.t.Fatalf("P16: MaxStream %d of %d was lost, and is not sent again", in.granted, k)
		}
	}
}
