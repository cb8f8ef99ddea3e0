package mediawire_test

import (
	"reflect"

	"mediawire/api"
)

// queueModel: the datagrams of a side that wait (P18).
type queueModel struct {
	waiting []api.Frame
	least   uint64 // the least id of the next one
}

// inboxModel: the datagrams that came to a side (P19).
type inboxModel struct {
	came     []cameModel // since the last call
	handed   map[uint64]bool
	greatest uint64
}

type cameModel struct {
	api.Frame
	tick uint64
}

func (m *sideModel) reset(k int, keep int) {
	var want error
	switch {
	case m.why != nil:
		want = api.ErrClosed
	case k < 0 || k > 7:
		want = api.ErrStream
	}
	if err := m.c.Reset(k, keep); err != want {
		m.t.Fatalf("P20: Reset(%d, %d) = %v, want %v", k, keep, err, want)
	}
	if want != nil {
		return
	}
	o := &m.out[k]
	keep = min(max(keep, 0), len(o.text))
	if !o.given {
		o.given, o.keep, o.offset = true, keep, max(o.high, uint64(keep))
	}
	o.keep = min(o.keep, keep)
}

// noticeSent: P20, and P16: it was not sent yet, or was lost.
func (m *sideModel) noticeSent(f api.Frame) {
	o := &m.out[f.Stream]
	if !o.given || f.Offset != o.offset || f.Reliable != uint64(o.keep) {
		m.t.Fatalf("P20: %+v; given up: %t, at %d, but for %d", f, o.given, o.offset, o.keep)
	}
	if least, told := m.noticed(f.Stream); told && least <= f.Reliable {
		m.t.Fatalf("P16: %+v is sent, and %d is on its way or came", f, least)
	}
}

// noticed: the least Reliable of ResetAt frames of a stream that are on their way, or that an Ack has named.
func (m *sideModel) noticed(k int) (uint64, bool) {
	least, told := m.flight.noticed[k]
	for _, s := range m.flight.sent {
		for _, f := range s.frames {
			if s.lost || f.Kind != api.ResetAt || f.Stream != k {
				continue
			}
			if !told || f.Reliable < least {
				least, told = f.Reliable, true
			}
		}
	}
	return least, told
}

// noNoticeLeft: that a stream was given up is told, and told again if that was lost.
func (m *sideModel) noNoticeLeft() {
	if m.flight.count() >= 12 {
		return
	}
	for k := range m.out {
		if least, told := m.noticed(k); m.out[k].given && (!told || least > uint64(m.out[k].keep)) {
			m.t.Fatalf("P16, P20: stream %d was given up but for %d bytes: it is not told so", k, m.out[k].keep)
		}
	}
}

func (m *sideModel) takeReset(f api.Frame) error {
	in := &m.in[f.Stream]
	if in.ended && in.end != f.Offset || in.high > f.Offset {
		return api.ErrFinal
	}
	if !in.given || f.Reliable < in.least {
		in.least = f.Reliable
	}
	in.given, in.ended, in.end = true, true, f.Offset
	return nil
}

func (m *sideModel) datagram(id uint64, deadline uint64, b []byte) bool {
	var want error
	switch {
	case m.why != nil:
		want = api.ErrClosed
	case id > most || deadline > most || id < m.queue.least:
		want = api.ErrOrder
	case len(b) > m.MTU-40:
		want = api.ErrBig
	case len(m.queue.waiting) == 16:
		want = api.ErrFull
	}
	if err := m.c.Datagram(id, deadline, b); err != want {
		m.t.Fatalf("P18: Datagram(%d, %d, %d bytes) = %v, want %v", id, deadline, len(b), err, want)
	}
	if want == nil {
		m.queue.least = id + 1
		m.queue.waiting = append(m.queue.waiting, api.Frame{Kind: api.Datagram, Id: id, Deadline: deadline, Data: string(b)})
		m.expire()
	}
	return want == nil
}

// expire: those whose deadline is below the tick wait no longer.
func (m *sideModel) expire() {
	var left []api.Frame
	for _, f := range m.queue.waiting {
		if f.Deadline >= m.flight.tick {
			left = append(left, f)
		}
	}
	m.queue.waiting = left
}

// datagramSent: the first that waits, which is not sent again.
func (m *sideModel) datagramSent(f api.Frame) {
	if m.queue.waiting == nil || !reflect.DeepEqual(f, m.queue.waiting[0]) {
		m.t.Fatalf("P18: %+v is sent, and %+v wait", f, m.queue.waiting)
	}
	m.queue.waiting = m.queue.waiting[1:]
	if len(m.queue.waiting) == 0 {
		m.queue.waiting = nil
	}
}

// datagramAhead: P18: while one waits it goes with the next packet on its way, whatever else is to be sent.
func (m *sideModel) datagramAhead(p api.Packet) {
	if m.queue.waiting == nil {
		return
	}
	for _, f := range p.Frames {
		if f.Kind == api.Datagram {
			return
		}
	}
	for _, f := range p.Frames {
		if f.Kind != api.Ack {
			m.t.Fatalf("P18: %+v is sent, and %d datagrams wait", p, len(m.queue.waiting))
		}
	}
}

// noDatagramLeft: P18: what waits is sent.
func (m *sideModel) noDatagramLeft() {
	if m.queue.waiting != nil && m.flight.count() < 12 {
		m.t.Fatalf("P18: %d datagrams wait, and %d packets are on their way", len(m.queue.waiting), m.flight.count())
	}
}

// datagrams: P19, word by word: one by one, in the order in which they came.
func (m *sideModel) datagrams() []api.Message {
	var want []api.Message
	for _, x := range m.inbox.came {
		if x.Deadline < x.tick || m.inbox.handed[x.Id] || x.Id < m.inbox.greatest && m.inbox.greatest-x.Id >= 32 {
			continue
		}
		want = append(want, api.Message{Id: x.Id, Data: x.Data})
		m.inbox.handed[x.Id] = true
		m.inbox.greatest = max(m.inbox.greatest, x.Id)
	}
	m.inbox.came = nil
	got := m.c.Datagrams()
	if !reflect.DeepEqual(got, want) {
		m.t.Fatalf("P19: Datagrams = %v, want %v", got, want)
	}
	return got
}

func (m *sideModel) close() {
	var want error
	if m.why != nil {
		want = api.ErrClosed
	}
	if err := m.c.Close(); err != want {
		m.t.Fatalf("P21: Close = %v, want %v", err, want)
	}
	if want == nil {
		m.why = api.ErrClosed
	}
	if m.c.Err() != m.why {
		m.t.Fatalf("P21: Err = %v, want %v", m.c.Err(), m.why)
	}
}

// partedWith: P21: what a side that is closed sends.
func (m *sideModel) partedWith(l [][]byte) {
	if m.parted || m.why == api.ErrPeer {
		if l != nil {
			m.t.Fatalf("P21: a side that is closed by %v sends %x", m.why, l)
		}
		return
	}
	m.parted = true
	limit := uint64(m.why.(api.Errno))
	if m.why == api.ErrClosed {
		limit = 0
	}
	want := packet(m.next, api.Frame{Kind: api.Close, Limit: limit})
	if len(l) != 1 || !reflect.DeepEqual(decoded(m.t, l[0]), want) {
		m.t.Fatalf("P21: a side that is closed by %v sends %x, want %+v", m.why, l, want)
	}
}
