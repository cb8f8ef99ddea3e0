package datagram

import (
	"testing"

	"mediawire/api"
)

// However many come, an inbox remembers no more ids than it must.
func TestP19FewIdsAreRemembered(t *testing.T) {
	in := NewInbox()
	for n := range uint64(1000) {
		in.Take(api.Frame{Kind: api.Datagram, Id: n * n % 997 * 3, Deadline: 1}, 1)
		if len(in.taken) > api.Seen {
			t.Fatalf("P19: %d ids are remembered", len(in.taken))
		}
	}
	for n := range uint64(100) {
		in.Take(api.Frame{Kind: api.Datagram, Id: 5000 + n, Deadline: 1}, 1)
	}
	if len(in.taken) != api.Seen {
		t.Errorf("P19: %d ids are remembered", len(in.taken))
	}
	if in.Empty() == nil || in.Empty() != nil || in.messages != nil {
		t.Errorf("P19: what was handed on is kept")
	}
}
