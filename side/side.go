// Package side: one side of a connection, and the talk of two (P8 to P22).
package side

import (
	"mediawire/api"
	"mediawire/datagram"
	"mediawire/numbers"
	"mediawire/stream"
)

// Side is one side of a connection.
type Side struct {
	api.Config
	tick    uint64
	streams [api.MaxStreams]both
	limit   uint64       // the other side has granted so many bytes of all streams
	grant   stream.Grant // what the other side was granted of all streams
	came    numbers.Set  // the numbers of the packets that came
	answer  bool         // one came that must be answered
	next    uint64       // the number of the next packet
	onWay   flight
	lost    flight
	named   uint64 // the number above the highest one that an Ack has named
	queue   datagram.Queue
	inbox   datagram.Inbox
	why     api.Errno // why it is closed; OK: it is open
	parted  bool      // the other side was told why
}

// both: the stream of a number that this side writes, and the one that it reads.
type both struct {
	out stream.Out
	in  stream.In
}

// New makes a side (P8).
func New(c api.Config) (*Side, error) {
	if !sound(c) {
		return nil, api.ErrConfig
	}
	s := &Side{
		Config: c,
		limit:  uint64(c.Total),
		grant:  stream.NewGrant(c.Total),
		came:   numbers.NewSet(api.MaxRanges),
		onWay:  flight{},
		lost:   flight{},
		inbox:  datagram.NewInbox(),
	}
	for k := range s.streams {
		s.streams[k] = both{out: stream.NewOut(c.Window), in: stream.NewIn(c.Window)}
	}
	return s, nil
}

// Closed: a side that has nothing to say: what stands for one that New did not make.
func Closed() *Side { return &Side{why: api.ErrClosed, parted: true} }

func sound(c api.Config) bool {
	return within(c.MTU, api.MinMTU, api.MaxMTU) &&
		within(c.Window, api.MinWindow, api.MaxWindow) &&
		within(c.Total, api.MinWindow, api.MaxWindow)
}

func within(n, least, most int) bool { return least <= n && n <= most }

// Tick: a tick has passed (P8).
func (s *Side) Tick() {
	s.tick++
	s.queue.Expire(s.tick)
}

// Err: why it is closed (P21).
func (s *Side) Err() error {
	if s.open() {
		return nil
	}
	return s.why
}

func (s *Side) open() bool { return s.why == api.OK }

// Close ends it (P21).
func (s *Side) Close() error {
	if !s.open() {
		return api.ErrClosed
	}
	s.why = api.ErrClosed
	return nil
}

// stream: the streams of a number, if the side is open and there are such.
func (s *Side) stream(k int) (*both, error) {
	switch {
	case !s.open():
		return nil, api.ErrClosed
	case !within(k, 0, api.MaxStreams-1):
		return nil, api.ErrStream
	}
	return &s.streams[k], nil
}

// Send: a stream goes on (P9).
func (s *Side) Send(k int, b []byte) error {
	x, err := s.stream(k)
	if err != nil {
		return err
	}
	return x.out.Send(b)
}

// Finish: a stream ends (P9).
func (s *Side) Finish(k int) error {
	x, err := s.stream(k)
	if err != nil {
		return err
	}
	return x.out.Finish()
}

// Reset: a stream is given up, but for its first keep bytes (P20).
func (s *Side) Reset(k int, keep int) error {
	x, err := s.stream(k)
	if err != nil {
		return err
	}
	x.out.Reset(keep)
	return nil
}

// Read: bytes of a stream that came, and its state (P15, P20).
func (s *Side) Read(k int, most int) ([]byte, int, error) {
	x, err := s.stream(k)
	if err != nil {
		return nil, 0, err
	}
	b, state := x.in.Read(most)
	return b, state, nil
}

// besideDatagram: what a packet may need beside the bytes of a datagram.
const besideDatagram = 40

// Datagram: a message waits to be sent (P18).
func (s *Side) Datagram(id uint64, deadline uint64, b []byte) error {
	if !s.open() {
		return api.ErrClosed
	}
	err := s.queue.Add(id, deadline, b, s.MTU-besideDatagram)
	s.queue.Expire(s.tick)
	return err
}

// Datagrams: the messages that came since the last call (P19). A side that is closed still hands them on.
func (s *Side) Datagrams() []api.Message { return s.inbox.Empty() }
