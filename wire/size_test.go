package wire

import (
	"bytes"
	"testing"

	"mediawire/api"
)

func TestP10RoomAndSizeMakeAPacket(t *testing.T) {
	f := api.Frame{Kind: api.MaxStream, Stream: 7, Limit: 1 << 14}
	for _, number := range []uint64{0, 63, 64, 1 << 14, 1 << 30, api.MaxValue} {
		b, err := Encode(api.Packet{Number: number, Frames: []api.Frame{f, f}})
		if err != nil || len(b) != 64-Room(64, number)+2*Size(f) {
			t.Errorf("P10: packet %d has %d bytes, %v; room is %d, a frame has %d", number, len(b), err, Room(64, number), Size(f))
		}
	}
}

func TestP10FillTakesWhatHasRoom(t *testing.T) {
	all := bytes.Repeat([]byte("x"), 200)
	for _, f := range []api.Frame{
		{Kind: api.Data, Stream: 3},
		{Kind: api.Data, Offset: 1 << 14},
		{Kind: api.Datagram, Id: 1 << 30, Deadline: 7},
	} {
		for room := range 180 {
			for _, b := range [][]byte{nil, all[:1], all[:63], all[:64], all[:65], all} {
				got, ok := Fill(f, b, room)
				if ok != (Size(f) <= room) || ok && Size(got) > room || !ok && got.Kind != 0 {
					t.Fatalf("P10: Fill of %d bytes in %d: %d, %t", len(b), room, len(got.Data), ok)
				}
				more := f
				more.Data = string(all[:len(got.Data)+1])
				if ok && len(got.Data) < len(b) && Size(more) <= room {
					t.Errorf("P10: Fill of %d bytes in %d takes %d of them", len(b), room, len(got.Data))
				}
			}
		}
	}
}
