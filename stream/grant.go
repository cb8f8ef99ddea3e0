// Package stream: one stream, for the side that writes it (Out) and for the side that reads it (In), and how far its bytes may go (Grant).
package stream

import (
	"mediawire/api"
	"mediawire/wire"
)

// Grant is how far bytes may go that come, of a stream or of all streams: so many ahead of those that take no room (P11).
type Grant struct {
	ahead uint64
	told  uint64
}

// NewGrant: what both sides know without being told.
func NewGrant(ahead int) Grant {
	return Grant{ahead: uint64(ahead), told: uint64(ahead)}
}

// limit: what could be granted, where free bytes take no room.
func (g *Grant) limit(free uint64) uint64 { return min(free+g.ahead, api.MaxValue) }

// Waits: more could be granted than was told.
func (g *Grant) Waits(free uint64) bool { return g.limit(free) > g.told }

// Next: the frame with the limit, which counts from now on; false, if it has no room.
func (g *Grant) Next(f api.Frame, free uint64, room int) (api.Frame, bool) {
	f.Limit = g.limit(free)
	if wire.Size(f) > room {
		return api.Frame{}, false
	}
	g.told = f.Limit
	return f, true
}

// Allows: bytes may end there (P13).
func (g *Grant) Allows(end uint64) bool { return end <= g.told }
