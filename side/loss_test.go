package side

import (
	"testing"

	"mediawire/api"
)

// However much is lost, a side keeps no more of it than it must.
func TestP16LostPacketsAreForgotten(t *testing.T) {
	s, err := New(api.Config{MTU: api.MinMTU, Window: api.MaxWindow, Total: api.MaxWindow})
	if err != nil {
		t.Fatal(err)
	}
	for k := range api.MaxStreams {
		if err := s.Send(k, make([]byte, api.MaxBuffer)); err != nil {
			t.Fatal(err)
		}
	}
	for range 100 {
		if l := s.Packets(); len(l) != api.MaxFlight {
			t.Fatalf("P16: %d packets are sent", len(l))
		}
		for range api.LossTime {
			s.Tick()
		}
		if len(s.onWay) != api.MaxFlight || len(s.lost) > lateAcks {
			t.Fatalf("P16: %d packets are on their way, %d lost ones are kept", len(s.onWay), len(s.lost))
		}
	}
	if len(s.lost) < lateAcks/2 {
		t.Errorf("P16: only %d lost packets are kept", len(s.lost))
	}
}
