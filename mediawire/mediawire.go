// Package mediawire: packets, and connections over which streams and datagrams come in time: see DOC.md.
package mediawire

import (
	"mediawire/api"
	"mediawire/side"
	"mediawire/wire"
)

// Encode writes a packet (P3, P4).
func Encode(p api.Packet) ([]byte, error) { return wire.Encode(p) }

// Decode reads a packet (P5).
func Decode(b []byte) (api.Packet, error) { return wire.Decode(b) }

// Conn is one side of a connection.
type Conn struct {
	side *side.Side
}

// New makes a side (P8).
func New(c api.Config) (*Conn, error) {
	s, err := side.New(c)
	if err != nil {
		return nil, err
	}
	return &Conn{side: s}, nil
}

// made: the side; one that is closed stands for what New did not make.
func (c *Conn) made() *side.Side {
	if c == nil || c.side == nil {
		return side.Closed()
	}
	return c.side
}

// Send: a stream goes on (P9).
func (c *Conn) Send(k int, b []byte) error { return c.made().Send(k, b) }

// Finish: a stream ends (P9).
func (c *Conn) Finish(k int) error { return c.made().Finish(k) }

// Reset: a stream is given up, but for its first bytes (P20).
func (c *Conn) Reset(k int, keep int) error { return c.made().Reset(k, keep) }

// Datagram: a message that is worth something up to its deadline (P18).
func (c *Conn) Datagram(id uint64, deadline uint64, b []byte) error {
	return c.made().Datagram(id, deadline, b)
}

// Tick: a tick has passed (P8).
func (c *Conn) Tick() { c.made().Tick() }

// Packets: what is to be sent now (P10, P11, P16, P18, P21).
func (c *Conn) Packets() [][]byte { return c.made().Packets() }

// Receive: a packet came (P12 to P14, P19 to P21).
func (c *Conn) Receive(b []byte) error { return c.made().Receive(b) }

// Read: bytes of a stream that came, and its state (P15, P20).
func (c *Conn) Read(k int, most int) ([]byte, int, error) { return c.made().Read(k, most) }

// Datagrams: messages that came (P19).
func (c *Conn) Datagrams() []api.Message { return c.made().Datagrams() }

// Close ends it (P21).
func (c *Conn) Close() error { return c.made().Close() }

// Err: why it is closed (P21).
func (c *Conn) Err() error { return c.made().Err() }

// Pump lets two sides talk (P22).
func Pump(a *Conn, b *Conn, ticks int) int {
	if a == b {
		return 0
	}
	return side.Pump(a.made(), b.made(), ticks)
}
