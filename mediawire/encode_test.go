package mediawire_test

import (
	"encoding/hex"
	"math"
	"strings"
	"testing"

	"mediawire/api"
	"mediawire/mediawire"
)

func TestP3NumbersOnBothSidesOfEachLength(t *testing.T) {
	for _, c := range []struct {
		n    uint64
		want string
	}{
		{0, "00"},
		{1<<6 - 1, "3f"},
		{1 << 6, "4040"},
		{1<<14 - 1, "7fff"},
		{1 << 14, "80004000"},
		{1<<30 - 1, "bfffffff"},
		{1 << 30, "c000000040000000"},
		{1<<62 - 1, "ffffffffffffffff"},
	} {
		p := packet(c.n, api.Frame{Kind: api.MaxData, Limit: c.n})
		want := sealed(t, c.want+"10"+c.want)
		b := encoded(t, p)
		if string(b) != string(want) {
			t.Errorf("P3: Encode(%+v) = %x, want %x", p, b, want)
		}
		if q := decoded(t, b); q.Number != c.n || q.Frames[0].Limit != c.n {
			t.Errorf("P3: Decode(%x) = %+v", b, q)
		}
	}
}

func TestP3EveryKindOfFrame(t *testing.T) {
	p, parts := every()
	if b, want := encoded(t, p), sealed(t, strings.Join(parts, "")); string(b) != string(want) {
		t.Errorf("P3: Encode(%+v) = %x, want %x", p, b, want)
	}
	for i, f := range p.Frames {
		b, want := encoded(t, packet(5, f)), sealed(t, "05"+parts[i+1])
		if string(b) != string(want) {
			t.Errorf("P3: Encode of %+v = %x, want %x", f, b, want)
		}
	}
}

func TestP3ExamplesOfTheDocument(t *testing.T) {
	for _, c := range []struct {
		p    api.Packet
		want string
	}{
		{packet(0, api.Frame{Kind: api.Ping}), "000136de2269"},
		{packet(64, ack(api.Range{Lo: 3, Hi: 7})), "4040020700044e42e991"},
		{packet(16384, ack(api.Range{Lo: 90, Hi: 100}, api.Range{Lo: 80, Hi: 88}, api.Range{Lo: 0, Hi: 10})), "80004000024064020a000840440a1b87a8d1"},
		{packet(1, api.Frame{Kind: api.ResetAt, Stream: 7, Offset: 300, Reliable: 20}), "012407412c1481bb9b5f"},
		{packet(1, api.Frame{Kind: api.Data, Stream: 1, Offset: 5, Data: "ab", Fin: true}), "01090105026162ca74d27c"},
		{packet(2, api.Frame{Kind: api.Datagram, Id: 9, Deadline: 70, Data: "hello"}, api.Frame{Kind: api.Close, Limit: 8}), "02300940460568656c6c6f1c081deb9fef"},
	} {
		if got := hex.EncodeToString(encoded(t, c.p)); got != c.want {
			t.Errorf("P3: Encode(%+v) = %s, want %s", c.p, got, c.want)
		}
	}
}

func TestP4OtherFieldsAreNotWritten(t *testing.T) {
	p, _ := every()
	for _, f := range p.Frames {
		full := api.Frame{Kind: f.Kind, Stream: 6, Offset: 5, Reliable: 4, Limit: 3, Id: 2, Deadline: 1, Data: "more", Fin: true, Ranges: []api.Range{{Lo: 1, Hi: 1}}}
		bare := api.Frame{Kind: f.Kind}
		switch f.Kind {
		case api.Ack:
			bare.Ranges = full.Ranges
		case api.ResetAt:
			bare.Stream, bare.Offset, bare.Reliable = full.Stream, full.Offset, full.Reliable
		case api.Data:
			bare.Stream, bare.Offset, bare.Data, bare.Fin = full.Stream, full.Offset, full.Data, full.Fin
		case api.MaxData, api.Close:
			bare.Limit = full.Limit
		case api.MaxStream:
			bare.Stream, bare.Limit = full.Stream, full.Limit
		case api.Datagram:
			bare.Id, bare.Deadline, bare.Data = full.Id, full.Deadline, full.Data
		}
		if got, want := encoded(t, packet(1, full)), encoded(t, packet(1, bare)); string(got) != string(want) {
			t.Errorf("P4: Encode of %+v = %x, want %x", full, got, want)
		}
	}
}

// refused: frames of which each has one ground for ErrFrame of P4.
func refused() []api.Frame {
	l := []api.Frame{
		{}, {Kind: -1}, {Kind: 9}, {Kind: math.MaxInt}, {Kind: math.MinInt},
		ack(),
		{Kind: api.Ack, Ranges: []api.Range{}},
		ack(api.Range{Lo: 5, Hi: 4}),
		ack(api.Range{Lo: 9, Hi: 9}, api.Range{Lo: 5, Hi: 4}),
		ack(api.Range{Lo: most, Hi: most + 1}),
		ack(api.Range{Lo: math.MaxUint64, Hi: math.MaxUint64}),
		ack(api.Range{Lo: 5, Hi: 6}, api.Range{Lo: 1, Hi: 4}),
		ack(api.Range{Lo: 5, Hi: 6}, api.Range{Lo: 1, Hi: 5}),
		ack(api.Range{Lo: 5, Hi: 6}, api.Range{Lo: 5, Hi: 6}),
		ack(api.Range{Lo: 1, Hi: 2}, api.Range{Lo: 5, Hi: 6}),
		ack(api.Range{Lo: 0, Hi: 2}, api.Range{Lo: 0, Hi: 0}),
		ack(api.Range{Lo: 0, Hi: 2}, api.Range{Lo: most, Hi: most}),
		ack(api.Range{Lo: 1, Hi: 2}, api.Range{Lo: 0, Hi: 0}),
		ack(api.Range{Lo: 9, Hi: 9}, api.Range{Lo: 5, Hi: 7}, api.Range{Lo: 4, Hi: 4}),
		ack(api.Range{Lo: 9, Hi: 9}, api.Range{Lo: 0, Hi: math.MaxUint64}),
		{Kind: api.ResetAt, Offset: 3, Reliable: 4},
		{Kind: api.ResetAt, Offset: most - 1, Reliable: most},
		{Kind: api.Data, Offset: most, Data: "a"},
		{Kind: api.Data, Offset: most - 1, Data: "ab", Fin: true},
	}
	for kind := api.Ping; kind <= api.Close; kind++ {
		sound := api.Frame{Kind: kind, Ranges: []api.Range{{Lo: 1, Hi: 1}}}
		for _, turn := range []func(f *api.Frame){
			func(f *api.Frame) { f.Stream = -1 },
			func(f *api.Frame) { f.Stream = 8 },
			func(f *api.Frame) { f.Stream = math.MinInt },
			func(f *api.Frame) { f.Stream = math.MaxInt },
			func(f *api.Frame) { f.Offset = most + 1 },
			func(f *api.Frame) { f.Offset, f.Reliable = most+1, most+1 },
			func(f *api.Frame) { f.Reliable = most + 1 },
			func(f *api.Frame) { f.Limit = most + 1 },
			func(f *api.Frame) { f.Id = most + 1 },
			func(f *api.Frame) { f.Deadline = most + 1 },
			func(f *api.Frame) { f.Offset, f.Data = math.MaxUint64, "a" },
			func(f *api.Frame) { f.Deadline = math.MaxUint64 },
		} {
			f := sound
			turn(&f)
			l = append(l, f)
		}
	}
	return l
}

func TestP4EncodeRefuses(t *testing.T) {
	ping := api.Frame{Kind: api.Ping}
	l := []api.Packet{
		{}, {Number: 7}, {Frames: []api.Frame{}},
		packet(most+1, ping), packet(math.MaxUint64, ping), packet(most + 1),
	}
	for _, f := range refused() {
		l = append(l, packet(1, f), packet(1, ping, f), packet(1, f, ping))
	}
	for _, p := range l {
		// As it is: Encode has no place to tell.
		if b, err := mediawire.Encode(p); b != nil || err != api.ErrFrame {
			t.Errorf("P4: Encode(%+v) = %x, %v, want ErrFrame", p, b, err)
		}
	}
}

func TestP4EncodeTakesTheEdges(t *testing.T) {
	for _, c := range []struct {
		f    api.Frame
		want string
	}{
		{api.Frame{Kind: api.Ping, Limit: most}, "01"},
		{api.Frame{Kind: api.Ping, Ranges: []api.Range{{Lo: math.MaxUint64, Hi: 5}}}, "01"},
		{api.Frame{Kind: api.Ping, Offset: most, Data: "a"}, "01"},
		{api.Frame{Kind: api.Ping, Offset: 3, Reliable: 4}, "01"},
		{api.Frame{Kind: api.Close, Limit: most, Ranges: []api.Range{{Lo: 1, Hi: most + 1}}}, "1cffffffffffffffff"},
		{ack(api.Range{Lo: 0, Hi: 0}), "02000000"},
		{ack(api.Range{Lo: most, Hi: most}), "02ffffffffffffffff0000"},
		{ack(api.Range{Lo: 0, Hi: most}), "02ffffffffffffffff00ffffffffffffffff"},
		{ack(api.Range{Lo: 2, Hi: 2}, api.Range{Lo: 0, Hi: 0}), "020201000000"},
		{ack(api.Range{Lo: most, Hi: most}, api.Range{Lo: 0, Hi: 0}), "02ffffffffffffffff0100fffffffffffffffd00"},
		{api.Frame{Kind: api.ResetAt}, "24000000"},
		{api.Frame{Kind: api.ResetAt, Stream: 7, Offset: 4, Reliable: 4}, "24070404"},
		{api.Frame{Kind: api.ResetAt, Offset: most, Reliable: most}, "2400ffffffffffffffffffffffffffffffff"},
		{api.Frame{Kind: api.Data}, "08000000"},
		{api.Frame{Kind: api.Data, Stream: 7, Fin: true}, "09070000"},
		{api.Frame{Kind: api.Data, Offset: most}, "0800ffffffffffffffff00"},
		{api.Frame{Kind: api.Data, Offset: most - 1, Data: "a"}, "0800fffffffffffffffe0161"},
		{api.Frame{Kind: api.Datagram, Id: most, Deadline: most, Data: "a"}, "30ffffffffffffffffffffffffffffffff0161"},
		{api.Frame{Kind: api.Datagram, Offset: most, Data: "a"}, "3000000161"},
		{api.Frame{Kind: api.Data, Data: strings.Repeat("z", 64)}, "0800004040" + strings.Repeat("7a", 64)},
	} {
		b, err := mediawire.Encode(packet(0, c.f))
		if want := sealed(t, "00"+c.want); err != nil || string(b) != string(want) {
			t.Errorf("P4: Encode of %+v = %x, %v, want %x", c.f, b, err, want)
		}
	}
}
