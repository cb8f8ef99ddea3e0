// Package mediawire: packets, and connections over which streams and datagrams come in time: see DOC.md.
package mediawire

import (
	"mediawire/api"
	"mediawire/wire"
)

// Encode writes a packet (P3, P4).
func Encode(p api.Packet) ([]byte, error) { return wire.Encode(p) }

// Decode reads a packet (P5).
func Decode(b []byte) (api.Packet, error) { return wire.Decode(b) }

// Conn is one side of a connection.
type Conn struct{}

// New makes a side (P8).
func New(c api.Config) (*Conn, error) { return nil, nil }

// Send: a stream goes on (P9).
func (c *Conn) Send(k int, b []byte) error { return nil }

// Finish: a stream ends (P9).
func (c *Conn) Finish(k int) error { return nil }

// Reset: a stream is given up, but for its first bytes (P20).
func (c *Conn) Reset(k int, keep int) error { return nil }

// Datagram: a message that is worth something up to its deadline (P18).
func (c *Conn) Datagram(id uint64, deadline uint64, b []byte) error { return nil }

// Tick: a tick has passed (P8).
func (c *Conn) Tick() {}

// Packets: what is to be sent now (P10, P11).
func (c *Conn) Packets() [][]byte { return nil }

// Receive: a packet came (P12 to P14).
func (c *Conn) Receive(b []byte) error { return nil }

// Read: bytes of a stream that came, and its state (P15).
func (c *Conn) Read(k int, most int) ([]byte, int, error) { return nil, 0, nil }

// Datagrams: messages that came (P19).
func (c *Conn) Datagrams() []api.Message { return nil }

// Close ends it (P21).
func (c *Conn) Close() error { return nil }

// Err: why it is closed (P21).
func (c *Conn) Err() error { return nil }

// Pump lets two sides talk (P22).
func Pump(a *Conn, b *Conn, ticks int) int { return 0 }
