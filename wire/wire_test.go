package wire

import (
	"encoding/hex"
	"hash/crc32"
	"math/rand/v2"
	"testing"
)

func TestP3NumberIsAsShortAsCanBe(t *testing.T) {
	for _, c := range []struct {
		n    uint64
		want string
	}{
		{0, "00"},
		{1, "01"},
		{1<<6 - 1, "3f"},
		{1 << 6, "4040"},
		{0x1234, "5234"},
		{1<<14 - 1, "7fff"},
		{1 << 14, "80004000"},
		{0x12345678, "92345678"},
		{1<<30 - 1, "bfffffff"},
		{1 << 30, "c000000040000000"},
		{0x123456789abcdef0, "d23456789abcdef0"},
		{1<<62 - 1, "ffffffffffffffff"},
	} {
		b := appendNumber(nil, c.n)
		if got := hex.EncodeToString(b); got != c.want {
			t.Errorf("P3: %d is written %s, want %s", c.n, got, c.want)
		}
		r := &reader{bytes: b}
		if got := r.number(); got != c.n || !r.ended() {
			t.Errorf("P3: %s is read as %d, %d bytes of it", c.want, got, r.at)
		}
	}
}

func TestP3SumIsThatOfTheLibrary(t *testing.T) {
	if got := sum([]byte("123456789")); got != 0xcbf43926 {
		t.Errorf("P3: the sum of 123456789 is %08x", got)
	}
	random := rand.New(rand.NewPCG(3, 32))
	for length := range 600 {
		b := make([]byte, length)
		for i := range b {
			b[i] = byte(random.Uint32())
		}
		if got, want := sum(b), crc32.ChecksumIEEE(b); got != want {
			t.Errorf("P3: the sum of %x is %08x, want %08x", b, got, want)
		}
	}
	for x := range 256 {
		b := []byte{byte(x)}
		if got, want := sum(b), crc32.ChecksumIEEE(b); got != want {
			t.Errorf("P3: the sum of %x is %08x, want %08x", b, got, want)
		}
	}
}
