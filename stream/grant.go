// Package stream: one stream, for the side that writes it (Out) and for the side that reads it (In), how far its bytes may go (Grant), and that it was given up (Notice).
package stream

import (
	"mediawire/api"
	"mediawire/wire"
)

// Grant is how far bytes may go that come, of a stream or of all streams: so many ahead of those that take no room (P11).
type Grant struct {
	ahead uint64
	told  uint64 // it counts, whether the other side knows of it or not
	away  uint64 // the highest limit that is on its way
	came  uint64 // the highest one that the other side knows for sure
}

// NewGrant: what both sides know without being told.
func NewGrant(ahead int) Grant {
	n := uint64(ahead)
	return Grant{ahead: n, told: n, came: n}
}

// limit: what could be granted, where free bytes take no room.
func (g *Grant) limit(free uint64) uint64 { return min(free+g.ahead, api.MaxValue) }

// Waits: more could be granted than the other side knows of, or will know by what is on its way.
func (g *Grant) Waits(free uint64) bool { return g.limit(free) > max(g.away, g.came) }

// Next: the frame with the limit, which counts from now on; false, if it has no room.
func (g *Grant) Next(f api.Frame, free uint64, room int) (api.Frame, bool) {
	f.Limit = g.limit(free)
	if wire.Size(f) > room {
		return api.Frame{}, false
	}
	g.told = f.Limit
	g.Away(f)
	return f, true
}

// Away: the frame with the limit is on its way.
func (g *Grant) Away(f api.Frame) { g.away = max(g.away, f.Limit) }

// Came: the frame with the limit came to the other side.
func (g *Grant) Came(f api.Frame) { g.came = max(g.came, f.Limit) }

// Lose: nothing is on its way any more.
func (g *Grant) Lose() { g.away = 0 }

// Allows: bytes may end there (P13).
func (g *Grant) Allows(end uint64) bool { return end <= g.told }
