package stream

import (
	"math"

	"mediawire/api"
	"mediawire/wire"
)

// Notice is what the other side is to know of a stream that was given up (P20): where it ends, and how many of its first bytes will come. Of these the least number counts.
type Notice struct {
	given  bool
	offset uint64 // it ends there
	away   uint64 // the least Reliable that is on its way
	came   uint64 // the least one that the other side knows for sure
}

// untold lies above every Reliable.
const untold = math.MaxUint64

// give: the stream is given up. Where it ends is said once, and stays.
func (n *Notice) give(offset uint64) {
	if !n.given {
		*n = Notice{given: true, offset: offset, away: untold, came: untold}
	}
}

// waits: fewer bytes will come than the other side knows of, or will know by what is on its way.
func (n *Notice) waits(reliable uint64) bool { return n.given && reliable < min(n.away, n.came) }

// next: the ResetAt frame of the stream, which is that of number k; false, if it has no room.
func (n *Notice) next(k int, reliable uint64, room int) (api.Frame, bool) {
	f := api.Frame{Kind: api.ResetAt, Stream: k, Offset: n.offset, Reliable: reliable}
	if wire.Size(f) > room {
		return api.Frame{}, false
	}
	n.Away(f)
	return f, true
}

// Away: a ResetAt frame is on its way.
func (n *Notice) Away(f api.Frame) { n.away = min(n.away, f.Reliable) }

// Came: a ResetAt frame came to the other side.
func (n *Notice) Came(f api.Frame) { n.came = min(n.came, f.Reliable) }

// Lose: nothing is on its way any more.
func (n *Notice) Lose() { n.away = untold }
