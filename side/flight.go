package side

import (
	"iter"

	"mediawire/api"
)

// flight: packets that no Ack has named yet, by their numbers. (What has Acks alone is never there: nobody answers it.)
type flight map[uint64]parcel

// parcel: what of a packet is sent again if it is lost, and the tick at which it was sent.
type parcel struct {
	frames []api.Frame
	tick   uint64
}

func (f flight) full() bool { return len(f) >= api.MaxFlight }

// frames walks through all that the packets hold, in no order.
func (f flight) frames() iter.Seq[api.Frame] {
	return func(yield func(api.Frame) bool) {
		for _, p := range f {
			for _, x := range p.frames {
				if !yield(x) {
					return
				}
			}
		}
	}
}

// take takes out the packets of which wanted says so.
func (f flight) take(wanted func(n uint64, p parcel) bool) flight {
	taken := flight{}
	for n, p := range f {
		if wanted(n, p) {
			taken[n] = p
			delete(f, n)
		}
	}
	return taken
}
