package mediawire_test

import (
	"bytes"
	"errors"
	"math/rand/v2"
	"testing"

	"mediawire/api"
	"mediawire/mediawire"
)

// sideModel is a side, and all that P8 to P21 let one know of it from the calls alone. Each call on it is held to that.
type sideModel struct {
	t *testing.T
	c *mediawire.Conn
	api.Config
	out      [8]outModel
	in       [8]inModel
	limit    uint64 // granted by the other side, of all streams
	granted  uint64 // granted to it
	next     uint64
	flight   flightModel
	came     map[uint64]bool
	numbers  *mediawire.Set
	due      []uint64 // came since the last Packets, with another frame than Ack
	queue    queueModel
	inbox    inboxModel
	why      error
	parted   bool
	packetsN int
}

type outModel struct {
	text     []byte
	finished bool
	given    bool
	keep     int    // if it was given up: so many bytes will be sent
	offset   uint64 // likewise: where it ends
	limit    uint64
	high     uint64 // the highest end that was sent
	places   [2049]placeModel
}

// last: how many bytes of it will be sent, as it is now.
func (o *outModel) last() int {
	if o.given {
		return o.keep
	}
	return len(o.text)
}

type inModel struct {
	bytes   map[uint64]byte
	high    uint64
	ended   bool
	end     uint64
	given   bool
	least   uint64 // if it was given up: the least Reliable
	state   int    // as Read has told it
	read    uint64
	granted uint64
}

// free: the bytes that take no room.
func (in *inModel) free() uint64 {
	if in.state == api.Reset {
		return in.end
	}
	return in.read
}

func newSideModel(t *testing.T, c api.Config) *sideModel {
	m := &sideModel{t: t, c: newSide(t, c), Config: c, limit: uint64(c.Total), granted: uint64(c.Total), flight: newFlightModel(), came: map[uint64]bool{}, numbers: mediawire.NewSet(8)}
	m.inbox.handed = map[uint64]bool{}
	for k := range 8 {
		m.out[k].limit = uint64(c.Window)
		m.in[k].granted = uint64(c.Window)
		m.in[k].bytes = map[uint64]byte{}
	}
	return m
}

// refused: what P9 has against a call on a stream.
func (m *sideModel) refused(k int, more int) error {
	switch {
	case m.why != nil:
		return api.ErrClosed
	case k < 0 || k > 7:
		return api.ErrStream
	case m.out[k].finished || m.out[k].given:
		return api.ErrState
	case len(m.out[k].text)+more > 2048:
		return api.ErrFull
	}
	return nil
}

func (m *sideModel) send(k int, b []byte) {
	want := m.refused(k, len(b))
	if err := m.c.Send(k, b); err != want {
		m.t.Fatalf("P9: Send(%d, %d bytes) = %v, want %v", k, len(b), err, want)
	}
	if want == nil {
		m.out[k].text = append(m.out[k].text, b...)
	}
}

func (m *sideModel) finish(k int) {
	want := m.refused(k, 0)
	if err := m.c.Finish(k); err != want {
		m.t.Fatalf("P9: Finish(%d) = %v, want %v", k, err, want)
	}
	if want == nil {
		m.out[k].finished = true
	}
}

func (m *sideModel) packets() [][]byte {
	l := m.c.Packets()
	if m.why != nil {
		m.partedWith(l)
		return l
	}
	m.lose()
	var all []api.Packet
	for _, b := range l {
		if len(b) > m.MTU {
			m.t.Fatalf("P10: a packet of %d bytes, MTU is %d", len(b), m.MTU)
		}
		p := decoded(m.t, b)
		all = append(all, p)
		m.onePacket(p)
	}
	m.answered(all)
	m.nothingLeft()
	m.noGrantLeft()
	m.noNoticeLeft()
	m.noDatagramLeft()
	m.packetsN += len(l)
	return l
}

func (m *sideModel) onePacket(p api.Packet) {
	if p.Number != m.next {
		m.t.Fatalf("P10: packet %d, want %d", p.Number, m.next)
	}
	m.next++
	m.datagramAhead(p)
	last := 1
	for _, f := range p.Frames {
		if order(f.Kind) < last {
			m.t.Fatalf("P10: the order of %+v", p)
		}
		last = order(f.Kind)
		m.oneFrame(f)
	}
	m.takeOff(p)
	if n := m.flight.count(); n > 12 {
		m.t.Fatalf("P16: %d packets are on their way", n)
	}
}

func (m *sideModel) oneFrame(f api.Frame) {
	switch f.Kind {
	case api.Data:
		m.dataSent(f)
	case api.Datagram:
		m.datagramSent(f)
	case api.ResetAt:
		m.noticeSent(f)
	case api.MaxData:
		free := uint64(0)
		for k := range m.in {
			free = min(most, free+m.in[k].free())
		}
		if f.Limit < m.granted || f.Limit > min(most, free+uint64(m.Total)) {
			m.t.Fatalf("P11: MaxData %d behind %d, %d bytes take no room", f.Limit, m.granted, free)
		}
		m.grantIsNew(f)
		m.granted = f.Limit
	case api.MaxStream:
		in := &m.in[f.Stream]
		if f.Limit < in.granted || f.Limit > in.free()+uint64(m.Window) {
			m.t.Fatalf("P11: MaxStream %d behind %d, %d bytes take no room", f.Limit, in.granted, in.free())
		}
		m.grantIsNew(f)
		in.granted = f.Limit
	}
}

func (m *sideModel) dataSent(f api.Frame) {
	o := &m.out[f.Stream]
	end := f.Offset + uint64(len(f.Data))
	if end > uint64(o.last()) || end > o.limit || string(o.text[f.Offset:end]) != f.Data {
		m.t.Fatalf("P11, P20: %+v, %d bytes are to be sent, %d are granted", f, o.last(), o.limit)
	}
	if fin := o.finished && !o.given && end == uint64(len(o.text)); f.Fin != fin || !fin && f.Data == "" {
		m.t.Fatalf("P11: %+v, %d bytes were written, finished: %t, given up: %t", f, len(o.text), o.finished, o.given)
	}
	if m.queue.waiting != nil {
		m.t.Fatalf("P18: %+v is sent, and %d datagrams wait", f, len(m.queue.waiting))
	}
	o.high = max(o.high, end)
	m.dataIsNew(f)
	if m.highs() > m.limit {
		m.t.Fatalf("P11: %d bytes of all streams, %d are granted", m.highs(), m.limit)
	}
}

func (m *sideModel) highs() uint64 {
	sum := uint64(0)
	for k := range m.out {
		sum += m.out[k].high
	}
	return sum
}

// answered: P11 of Acks.
func (m *sideModel) answered(l []api.Packet) {
	names := mediawire.NewSet(1000)
	for _, f := range frames(l, api.Ack) {
		for _, r := range f.Ranges {
			for n := r.Lo; n <= r.Hi; n++ {
				if !m.came[n] {
					m.t.Fatalf("P11: %d is named, and did not come", n)
				}
			}
			names.Add(r.Lo, r.Hi)
		}
	}
	for _, n := range m.due {
		if n >= m.numbers.Floor() && !names.Has(n) {
			m.t.Fatalf("P11: %d came, and is not named", n)
		}
	}
	m.due = nil
}

// nothingLeft: P10: what may be sent was sent.
func (m *sideModel) nothingLeft() {
	if m.flight.count() >= 12 {
		return
	}
	for k := range m.out {
		o := &m.out[k]
		if o.high < uint64(o.last()) && o.high < o.limit && m.highs() < m.limit {
			m.t.Fatalf("P10: stream %d: %d of %d bytes are sent, %d granted, %d of %d of all", k, o.high, o.last(), o.limit, m.highs(), m.limit)
		}
		for i := range min(o.high, uint64(o.last())) {
			if o.places[i].waits() {
				m.t.Fatalf("P16: stream %d: byte %d was lost, and is not sent again", k, i)
			}
		}
		if o.finished && !o.given && o.high == uint64(len(o.text)) && o.places[o.high].waits() {
			m.t.Fatalf("P10, P16: stream %d: its end is not sent", k)
		}
	}
}

func (m *sideModel) receive(b []byte) {
	want := m.take(b)
	err := m.c.Receive(b)
	if want == api.ErrFrame {
		var f *api.Fault
		if !errors.As(err, &f) || f.Err != api.ErrFrame {
			m.t.Fatalf("P12: Receive(%x) = %v, want %v", b, err, want)
		}
	} else if err != want {
		m.t.Fatalf("P12: Receive(%x) = %v, want %v", b, err, want)
	}
	if m.c.Err() != m.why {
		m.t.Fatalf("P12: Err = %v, want %v", m.c.Err(), m.why)
	}
}

func (m *sideModel) take(b []byte) error {
	if m.why != nil {
		return api.ErrClosed
	}
	p, err := mediawire.Decode(b)
	if errors.Is(err, api.ErrFrame) {
		m.why = api.ErrFrame
		return m.why
	}
	if err != nil {
		return api.ErrSum
	}
	if m.came[p.Number] || p.Number < m.numbers.Floor() {
		return nil
	}
	m.came[p.Number] = true
	m.numbers.Add(p.Number, p.Number)
	for _, f := range p.Frames {
		if f.Kind != api.Ack {
			m.due = append(m.due, p.Number)
		}
		if m.why = m.takeFrame(f); m.why != nil {
			return m.why
		}
	}
	return nil
}

func (m *sideModel) takeFrame(f api.Frame) error {
	switch f.Kind {
	case api.Ack:
		for _, r := range f.Ranges {
			if r.Hi >= m.next {
				return api.ErrAck
			}
		}
		m.land(f)
	case api.MaxData:
		m.limit = max(m.limit, f.Limit)
	case api.MaxStream:
		m.out[f.Stream].limit = max(m.out[f.Stream].limit, f.Limit)
	case api.Data:
		return m.takeData(f)
	case api.ResetAt:
		return m.takeReset(f)
	case api.Datagram:
		m.inbox.came = append(m.inbox.came, cameModel{f, m.flight.tick})
	case api.Close:
		return api.ErrPeer
	}
	return nil
}

func (m *sideModel) takeData(f api.Frame) error {
	in := &m.in[f.Stream]
	end := f.Offset + uint64(len(f.Data))
	if in.ended && end > in.end || f.Fin && in.ended && end != in.end || f.Fin && end < in.high {
		return api.ErrFinal
	}
	sum := max(in.high, end)
	for k := range m.in {
		if k != f.Stream {
			sum += m.in[k].high
		}
	}
	if end > in.granted || sum > m.granted {
		return api.ErrFlow
	}
	in.high = max(in.high, end)
	if f.Fin {
		in.ended, in.end = true, end
	}
	for i := range len(f.Data) {
		at := f.Offset + uint64(i)
		if _, ok := in.bytes[at]; !ok {
			in.bytes[at] = f.Data[i]
		}
	}
	return nil
}

func (m *sideModel) read(k int, most int) ([]byte, int) {
	b, state, err := m.c.Read(k, most)
	if m.why != nil {
		if b != nil || state != 0 || err != api.ErrClosed {
			m.t.Fatalf("P15: Read of a side that is closed = %q, %d, %v", b, state, err)
		}
		return nil, 0
	}
	in := &m.in[k]
	want := in.next(most)
	if !bytes.Equal(b, want) || b != nil && len(b) == 0 || state != in.state || err != nil {
		m.t.Fatalf("P15, P20: Read(%d, %d) = %q, %d, %v, want %q, %d", k, most, b, state, err, want, in.state)
	}
	return b, state
}

// next: what Read should hand out; the state behind it is that of the stream then.
func (in *inModel) next(most int) []byte {
	var want []byte
	for in.state == api.Open && len(want) < most && !(in.given && in.read >= in.least) {
		x, ok := in.bytes[in.read]
		if !ok {
			break
		}
		want = append(want, x)
		in.read++
	}
	switch {
	case in.state != api.Open:
	case in.given && in.read >= in.least:
		in.state = api.Reset
	case !in.given && in.ended && in.read == in.end:
		in.state = api.Finished
	}
	return want
}

func randomConfig(random *rand.Rand) api.Config {
	pick := func(l ...int) int { return l[random.IntN(len(l))] }
	return api.Config{
		MTU:    pick(64, 65, 64+random.IntN(337), 400),
		Window: pick(16, 16+random.IntN(50), 16+random.IntN(4081), 4096),
		Total:  pick(16, 16+random.IntN(100), 16+random.IntN(4081), 4096),
	}
}

func randomText(random *rand.Rand, most int) []byte {
	b := make([]byte, random.IntN(most+1))
	for i := range b {
		b[i] = byte(random.Uint32())
	}
	return b
}

// step: something is done on the side.
func (m *sideModel) step(random *rand.Rand) {
	switch random.IntN(11) {
	case 0, 1:
		m.send(random.IntN(10)-1, randomText(random, 1<<random.IntN(12)))
	case 2:
		if random.IntN(6) == 0 {
			m.finish(random.IntN(10) - 1)
		}
	case 3:
		m.clock()
	case 4:
		if random.IntN(4) == 0 {
			m.reset(random.IntN(10)-1, random.IntN(1<<random.IntN(12))-5)
		}
	case 5:
		m.datagram(m.queue.least+uint64(random.IntN(4))-min(m.queue.least, 1), m.flight.tick+uint64(random.IntN(4))-min(m.flight.tick, 1), randomText(random, m.MTU-39))
	case 6:
		m.datagrams()
	default:
		m.read(random.IntN(8), random.IntN(1<<random.IntN(12))-1)
	}
}

// hostile: a frame that a side might not expect, often at an edge of what it may hold.
func (m *sideModel) hostile(random *rand.Rand) api.Frame {
	near := func(n uint64) uint64 { return min(n+uint64(random.IntN(3))-min(n, 1), most) }
	k := random.IntN(8)
	in := m.in[k]
	switch random.IntN(50) {
	case 8, 9:
		return api.Frame{Kind: api.Datagram, Id: min(m.inbox.greatest+uint64(random.IntN(40))-min(m.inbox.greatest, 35), most), Deadline: near(m.flight.tick), Data: string(randomText(random, 9))}
	case 10:
		return api.Frame{Kind: api.Datagram, Id: min(number(random), most), Deadline: min(number(random), most)}
	case 11:
		offset := near(in.high)
		return resetAt(k, offset, min(offset, uint64(random.IntN(20))))
	case 12:
		return resetAt(k, in.end, min(in.end, uint64(random.IntN(20))))
	case 13:
		offset := min(number(random), most)
		return resetAt(k, offset, min(offset, number(random)))
	case 14:
		if random.IntN(10) == 0 {
			return api.Frame{Kind: api.Close, Limit: uint64(random.IntN(20))}
		}
		return api.Frame{Kind: api.Ping}
	case 0:
		return api.Frame{Kind: api.Ping}
	case 1:
		return maxData(min(near(m.limit), most))
	case 2:
		return maxStream(k, min(near(m.out[k].limit), most))
	case 3:
		lo := uint64(random.IntN(int(m.next) + 1))
		return ack(api.Range{Lo: lo, Hi: max(lo, near(m.next-min(m.next, uint64(random.IntN(20)))))})
	case 4:
		return data(k, min(number(random), most-20), string(randomText(random, 5)), random.IntN(3) == 0)
	case 5:
		return data(k, near(in.end), "", random.IntN(2) == 0)
	case 6:
		return data(k, near(in.high), "", random.IntN(2) == 0)
	case 7:
		text := randomText(random, 20)
		return data(k, near(in.granted-min(in.granted, uint64(len(text)))), string(text), random.IntN(10) == 0)
	}
	return data(k, near(in.read)+uint64(random.IntN(6)), string(randomText(random, 10)), random.IntN(30) == 0)
}

func TestP12ToP21HostileFrames(t *testing.T) {
	closed := map[error]int{}
	for seed := range uint64(4000) {
		random := rand.New(rand.NewPCG(12, seed))
		m := newSideModel(t, randomConfig(random))
		for range random.IntN(60) {
			m.step(random)
			if random.IntN(3) == 0 {
				m.packets()
			}
			p := packet(uint64(random.IntN(100)) << random.IntN(2))
			for range 1 + random.IntN(3) {
				p.Frames = append(p.Frames, m.hostile(random))
			}
			b := encoded(t, p)
			if random.IntN(100) == 0 {
				b = seal(b[:random.IntN(len(b))])
			}
			m.receive(b)
			if random.IntN(200) == 0 {
				m.close()
			}
		}
		m.packets()
		m.packets()
		m.datagrams()
		closed[m.why]++
	}
	for _, e := range []api.Errno{api.ErrFrame, api.ErrFlow, api.ErrFinal, api.ErrAck, api.ErrClosed, api.ErrPeer} {
		if closed[e] < 50 {
			t.Errorf("only %d sides were closed by %v: the test asks for too little", closed[e], e)
		}
	}
	if closed[nil] < 50 {
		t.Errorf("only %d sides are open: the test asks for too little", closed[nil])
	}
}

func TestP1ReceiveOfTurnedBodies(t *testing.T) {
	p, _ := every()
	sound := encoded(t, p)
	sound = sound[:len(sound)-4]
	random := rand.New(rand.NewPCG(1, 12))
	m := newSideModel(t, small)
	for range 20000 {
		body := bytes.Clone(sound[:random.IntN(len(sound)+1)])
		for range random.IntN(3) {
			if len(body) > 0 {
				body[random.IntN(len(body))] = byte(random.Uint32())
			}
		}
		m.receive(seal(body))
		m.receive(body)
		m.packets()
		m.read(random.IntN(8), 5)
		if m.why != nil {
			m.datagrams()
			m = newSideModel(t, small)
			m.send(2, body)
		}
	}
}

// FuzzReceive: bytes are cut into packets, each with its sum.
func FuzzReceive(f *testing.F) {
	p, _ := every()
	b := encoded(f, p)
	f.Add(b[:len(b)-4], uint8(9))
	for _, x := range p.Frames {
		b := encoded(f, packet(3, x))
		f.Add(b[:len(b)-4], uint8(200))
	}
	f.Fuzz(func(t *testing.T, body []byte, cut uint8) {
		m := newSideModel(t, small)
		m.send(0, []byte("abcdefgh"))
		m.reset(1, 3)
		m.datagram(uint64(cut), 5, body[:min(len(body), 30)])
		for len(body) > 0 {
			n := min(len(body), int(cut)+1)
			m.receive(seal(body[:n]))
			body = body[n:]
			m.packets()
			m.datagrams()
			for k := range 8 {
				m.read(k, int(cut%16))
			}
			for range cut % 8 {
				m.clock()
			}
		}
	})
}
