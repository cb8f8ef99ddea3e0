package stream

import (
	"testing"

	"mediawire/api"
)

// Bytes that nobody will read are not kept.
func TestP20WhatWasGivenUpIsForgotten(t *testing.T) {
	in := NewIn(100)
	in.Take(api.Frame{Kind: api.Data, Data: "0123456789"})
	in.Read(2)
	in.TakeReset(api.Frame{Kind: api.ResetAt, Offset: 50, Reliable: 7})
	if len(in.held) != 5 || len(in.came) != 5 {
		t.Errorf("P20: %d bytes are kept, 5 will be read", len(in.held))
	}
	in.Take(api.Frame{Kind: api.Data, Offset: 6, Data: "6789abcdef"})
	if len(in.held) != 5 || in.high != 16 {
		t.Errorf("P20: %d bytes are kept, 5 will be read", len(in.held))
	}
	in.TakeReset(api.Frame{Kind: api.ResetAt, Offset: 50, Reliable: 1})
	if len(in.held) != 0 || len(in.came) != 0 {
		t.Errorf("P20: %d bytes are kept, none will be read", len(in.held))
	}
}
