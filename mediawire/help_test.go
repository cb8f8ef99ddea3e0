package mediawire_test

import (
	"encoding/binary"
	"encoding/hex"
	"hash/crc32"
	"slices"
	"testing"

	"mediawire/api"
	"mediawire/mediawire"
)

const most = api.MaxValue

// sealed: a body to the base 16, with its sum (that of the library) behind it.
func sealed(t testing.TB, body string) []byte {
	t.Helper()
	b, err := hex.DecodeString(body)
	if err != nil {
		t.Fatal(err)
	}
	return seal(b)
}

func seal(body []byte) []byte {
	return binary.BigEndian.AppendUint32(slices.Clone(body), crc32.ChecksumIEEE(body))
}

func packet(number uint64, frames ...api.Frame) api.Packet {
	return api.Packet{Number: number, Frames: frames}
}

func ack(ranges ...api.Range) api.Frame {
	return api.Frame{Kind: api.Ack, Ranges: ranges}
}

func encoded(t testing.TB, p api.Packet) []byte {
	t.Helper()
	b, err := mediawire.Encode(p)
	if err != nil {
		t.Fatalf("Encode(%+v): %v", p, err)
	}
	return b
}

func decoded(t testing.TB, b []byte) api.Packet {
	t.Helper()
	p, err := mediawire.Decode(b)
	if err != nil {
		t.Fatalf("Decode(%x): %v", b, err)
	}
	return p
}

// every: a packet with all kinds of frames, and how its body is written.
func every() (api.Packet, []string) {
	p := packet(5,
		api.Frame{Kind: api.Ping},
		ack(api.Range{Lo: 90, Hi: 100}, api.Range{Lo: 80, Hi: 88}, api.Range{Lo: 0, Hi: 10}),
		api.Frame{Kind: api.ResetAt, Stream: 7, Offset: 300, Reliable: 20},
		api.Frame{Kind: api.Data, Stream: 2, Offset: 64, Data: "xyz"},
		api.Frame{Kind: api.Data, Stream: 1, Offset: 5, Data: "ab", Fin: true},
		api.Frame{Kind: api.MaxData, Limit: 1 << 14},
		api.Frame{Kind: api.MaxStream, Stream: 3, Limit: 4096},
		api.Frame{Kind: api.Datagram, Id: 9, Deadline: 70, Data: "hello"},
		api.Frame{Kind: api.Close, Limit: 8},
	)
	return p, []string{"05", "01", "024064020a000840440a", "2407412c14", "0802404003" + "78797a", "09010502" + "6162", "1080004000", "11035000", "3009404605" + "68656c6c6f", "1c08"}
}
