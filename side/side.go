// Package side: one side of a connection (P8 to P17).
package side

import (
	"mediawire/api"
	"mediawire/numbers"
	"mediawire/stream"
)

// Side is one side of a connection.
type Side struct {
	api.Config
	tick    uint64
	streams [api.MaxStreams]both
	limit   uint64       // the other side has granted so many bytes of all streams
	grant   stream.Grant // what the other side was granted of all streams
	came    numbers.Set  // the numbers of the packets that came
	answer  bool         // one came that must be answered
	next    uint64       // the number of the next packet
	onWay   flight
	lost    flight
	named   uint64    // the number above the highest one that an Ack has named
	why     api.Errno // why it is closed; OK: it is open
	parted  bool      // the other side was told why
}

// both: the stream of a number that this side writes, and the one that it reads.
type both struct {
	out stream.Out
	in  stream.In
}

// New makes a side (P8).
func New(c api.Config) (*Side, error) {
	if !sound(c) {
		return nil, api.ErrConfig
	}
	s := &Side{
		Config: c,
		limit:  uint64(c.Total),
		grant:  stream.NewGrant(c.Total),
		came:   numbers.NewSet(api.MaxRanges),
		onWay:  flight{},
		lost:   flight{},
	}
	for k := range s.streams {
		s.streams[k] = both{out: stream.NewOut(c.Window), in: stream.NewIn(c.Window)}
	}
	return s, nil
}

// Closed: a side that has nothing to say: what stands for one that New did not make.
func Closed() *Side { return &Side{why: api.ErrClosed, parted: true} }

func sound(c api.Config) bool {
	return within(c.MTU, api.MinMTU, api.MaxMTU) &&
		within(c.Window, api.MinWindow, api.MaxWindow) &&
		within(c.Total, api.MinWindow, api.MaxWindow)
}

func within(n, least, most int) bool { return least <= n && n <= most }

// Tick: a tick has passed.
func (s *Side) Tick() { s.tick++ }

// Err: why it is closed.
func (s *Side) Err() error {
	if s.open() {
		return nil
	}
	return s.why
}

func (s *Side) open() bool { return s.why == api.OK }

// stream: the streams of a number, if the side is open and there are such.
func (s *Side) stream(k int) (*both, error) {
	switch {
	case !s.open():
		return nil, api.ErrClosed
	case !within(k, 0, api.MaxStreams-1):
		return nil, api.ErrStream
	}
	return &s.streams[k], nil
}

// Send: a stream goes on (P9).
func (s *Side) Send(k int, b []byte) error {
	x, err := s.stream(k)
	if err != nil {
		return err
	}
	return x.out.Send(b)
}

// Finish: a stream ends (P9).
func (s *Side) Finish(k int) error {
	x, err := s.stream(k)
	if err != nil {
		return err
	}
	return x.out.Finish()
}

// Read: bytes of a stream that came, and its state (P15).
func (s *Side) Read(k int, most int) ([]byte, int, error) {
	x, err := s.stream(k)
	if err != nil {
		return nil, 0, err
	}
	b, state := x.in.Read(most)
	return b, state, nil
}
