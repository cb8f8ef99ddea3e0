package side

import "mediawire/api"

// flight: the numbers of the packets on their way. (What Acks alone have is not: nobody answers it.)
type flight map[uint64]struct{}

func (f flight) full() bool { return len(f) >= api.MaxFlight }

func (f flight) add(n uint64) { f[n] = struct{}{} }

// land: an Ack names these packets.
func (f flight) land(named []api.Range) {
	for n := range f {
		if names(named, n) {
			delete(f, n)
		}
	}
}

func names(l []api.Range, n uint64) bool {
	for _, r := range l {
		if r.Lo <= n && n <= r.Hi {
			return true
		}
	}
	return false
}
