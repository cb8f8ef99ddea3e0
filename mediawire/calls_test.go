package mediawire_test

import (
	"errors"
	"math"
	"math/rand/v2"
	"reflect"
	"slices"
	"testing"

	"mediawire/api"
	"mediawire/mediawire"
)

// copied: a packet with lists of its own.
func copied(p api.Packet) api.Packet {
	p.Frames = slices.Clone(p.Frames)
	for i := range p.Frames {
		p.Frames[i].Ranges = slices.Clone(p.Frames[i].Ranges)
	}
	return p
}

// answer holds Decode to what P1, P2 and P5 say of all bytes.
func answer(t testing.TB, body []byte) {
	t.Helper()
	b := seal(body)
	own := slices.Clone(b)
	p, err := mediawire.Decode(b)
	if !slices.Equal(b, own) {
		t.Fatalf("P2: Decode writes into %x", own)
	}
	if err == nil {
		again(t, p)
		return
	}
	var f *api.Fault
	if !errors.As(err, &f) || f.Err != api.ErrFrame || f.At < 0 || f.At > len(body) || !reflect.DeepEqual(p, api.Packet{}) {
		t.Fatalf("P5: Decode of %x = %+v, %v", body, p, err)
	}
	ahead(t, body, f.At)
}

// again: what Decode answers Encode writes, and Decode reads.
func again(t testing.TB, p api.Packet) {
	t.Helper()
	if q := decoded(t, encoded(t, p)); !reflect.DeepEqual(p, q) {
		t.Fatalf("P3, P5: %+v comes back as %+v", p, q)
	}
}

// ahead: nothing ahead of the place of a fault is wrong.
func ahead(t testing.TB, body []byte, at int) {
	t.Helper()
	if at == 0 {
		return
	}
	_, err := mediawire.Decode(seal(body[:at]))
	var f *api.Fault
	if err == nil || errors.As(err, &f) && f.At == 0 { // a number, and nothing behind it
		return
	}
	t.Fatalf("P5: the fault of %x is at %d, but ahead of that is one too: %v", body, at, err)
}

func TestP1DecodeOfShortBodies(t *testing.T) {
	answer(t, nil)
	for x := range 256 {
		answer(t, []byte{byte(x)})
		for y := range 256 {
			answer(t, []byte{byte(x), byte(y)})
			answer(t, []byte{0, byte(x), byte(y)})
		}
	}
}

func TestP1DecodeOfTurnedBodies(t *testing.T) {
	p, _ := every()
	sound := encoded(t, p)
	sound = sound[:len(sound)-4]
	random := rand.New(rand.NewPCG(1, 5))
	for range 60000 {
		body := slices.Clone(sound[:1+random.IntN(len(sound))])
		for range 1 + random.IntN(3) {
			body[random.IntN(len(body))] = byte(random.Uint32())
		}
		answer(t, body)
	}
}

func FuzzDecode(f *testing.F) {
	p, _ := every()
	b := encoded(f, p)
	f.Add(b[:len(b)-4])
	for _, x := range p.Frames {
		b := encoded(f, packet(1<<30, x))
		f.Add(b[:len(b)-4])
	}
	f.Fuzz(func(t *testing.T, body []byte) {
		answer(t, body)
		if p, err := mediawire.Decode(body); err == nil {
			again(t, p)
		}
	})
}

// number is often at an edge.
func number(random *rand.Rand) uint64 {
	edges := []uint64{0, 1, 2, 63, 64, 1<<14 - 1, 1 << 14, 1<<30 - 1, 1 << 30, most - 1, most, most + 1, math.MaxUint64 - 1, math.MaxUint64}
	if n := random.IntN(3 * len(edges)); n < len(edges) {
		return edges[n]
	}
	return random.Uint64() >> random.IntN(64)
}

func frame(random *rand.Rand) api.Frame {
	f := api.Frame{Kind: random.IntN(11) - 1, Stream: random.IntN(10) - 1, Data: "abcdefgh"[:random.IntN(9)], Fin: random.IntN(2) == 0}
	for _, place := range []*uint64{&f.Offset, &f.Reliable, &f.Limit, &f.Id, &f.Deadline} {
		if random.IntN(2) == 0 {
			*place = number(random)
		}
	}
	ends := make([]uint64, 2*random.IntN(4))
	for i := range ends {
		ends[i] = number(random)
	}
	if random.IntN(2) == 0 { // often ranges as they should be
		slices.Sort(ends)
		slices.Reverse(ends)
	}
	for i := 0; i < len(ends); i += 2 {
		f.Ranges = append(f.Ranges, api.Range{Lo: ends[i+1], Hi: ends[i]})
	}
	return f
}

func TestP1EncodeOfAllPackets(t *testing.T) {
	random := rand.New(rand.NewPCG(1, 4))
	written := 0
	for range 60000 {
		p := packet(number(random))
		for range random.IntN(3) {
			p.Frames = append(p.Frames, frame(random))
		}
		own := copied(p)
		b, err := mediawire.Encode(p)
		if !reflect.DeepEqual(p, own) {
			t.Fatalf("P2: Encode turns %+v into %+v", own, p)
		}
		if err == nil {
			written++
			again(t, decoded(t, b))
		} else if err != api.ErrFrame || b != nil {
			t.Fatalf("P4: Encode(%+v) = %x, %v", p, b, err)
		}
	}
	if written < 1000 {
		t.Errorf("only %d packets were written: the test asks for too little", written)
	}
}

func TestP1CountsThatNoPacketHolds(t *testing.T) {
	for _, body := range []string{
		"00" + "02" + "ffffffffffffffff" + "ffffffffffffffff" + "00" + "0000" + "0000",
		"00" + "08" + "00" + "00" + "ffffffffffffffff",
		"00" + "30" + "00" + "00" + "ffffffffffffffff",
	} {
		p, err := mediawire.Decode(sealed(t, body))
		if !errors.Is(err, api.ErrFrame) || p.Frames != nil {
			t.Errorf("P1: Decode of %s = %+v, %v", body, p, err)
		}
	}
}

func TestP1SetsOfAllNumbers(t *testing.T) {
	random := rand.New(rand.NewPCG(1, 6))
	for _, bound := range []int{math.MinInt, -1, 0, 1, 2, 8, math.MaxInt} {
		s := mediawire.NewSet(bound)
		for range 3000 {
			s.Add(number(random), number(random))
			s.Has(number(random))
			last := api.Range{}
			for r := range s.Down() {
				if r.Lo > r.Hi || r.Lo < s.Floor() || last != (api.Range{}) && last.Lo-r.Hi < 2 {
					t.Fatalf("P6: %v, floor %d", down(s), s.Floor())
				}
				last = r
			}
		}
	}
}

func TestP1SetsThatNewSetDidNotMake(t *testing.T) {
	var zero mediawire.Set
	zero.Add(3, 3)
	zero.Add(7, 7)
	if got := told(&zero); got != "[{7 7}] 4" {
		t.Errorf("P1: a zero set: %s", got)
	}
	var none *mediawire.Set
	none.Add(3, 3)
	if got := told(none); got != "[] 0" || none.Has(3) {
		t.Errorf("P1: no set: %s", got)
	}
}

func TestP1AddWithinAWalk(t *testing.T) {
	s := added(4, api.Range{Lo: 1, Hi: 1}, api.Range{Lo: 3, Hi: 3}, api.Range{Lo: 5, Hi: 5}, api.Range{Lo: 7, Hi: 7})
	var l []api.Range
	for r := range s.Down() {
		l = append(l, r)
		s.Add(0, 100)
	}
	if want := []api.Range{{Lo: 7, Hi: 7}, {Lo: 5, Hi: 5}, {Lo: 3, Hi: 3}, {Lo: 1, Hi: 1}}; !reflect.DeepEqual(l, want) {
		t.Errorf("P1: a walk over a set that turns: %v", l)
	}
	n := 0
	for r := range s.Down() {
		n++
		s.Add(r.Lo+1000*uint64(n), r.Hi+1000*uint64(n))
	}
	if n != 1 {
		t.Errorf("P1: a walk over a set that grows: %d ranges", n)
	}
}

func TestP2EncodeKeepsNothing(t *testing.T) {
	p, _ := every()
	own := copied(p)
	b := encoded(t, p)
	want := slices.Clone(b)
	if !reflect.DeepEqual(p, own) {
		t.Errorf("P2: Encode turns %+v into %+v", own, p)
	}
	for i := range p.Frames {
		for k := range p.Frames[i].Ranges {
			p.Frames[i].Ranges[k] = api.Range{Lo: 7, Hi: 7}
		}
		p.Frames[i] = api.Frame{Kind: api.Ping}
	}
	if !slices.Equal(b, want) {
		t.Errorf("P2: what was written turns with what was handed in")
	}
	other := encoded(t, own)
	for i := range b {
		b[i] = '!'
	}
	if !slices.Equal(other, want) || !slices.Equal(encoded(t, own), want) {
		t.Errorf("P2: what came out is not the caller's alone")
	}
}

func TestP2DecodeKeepsNothing(t *testing.T) {
	p, _ := every()
	b := encoded(t, p)
	own := slices.Clone(b)
	q, other := decoded(t, b), decoded(t, b)
	if !slices.Equal(b, own) {
		t.Errorf("P2: Decode writes into what was handed in")
	}
	for i := range b {
		b[i] = '!'
	}
	if !reflect.DeepEqual(q, p) {
		t.Errorf("P2: what was read turns with what was handed in: %+v", q)
	}
	for i := range q.Frames {
		for k := range q.Frames[i].Ranges {
			q.Frames[i].Ranges[k] = api.Range{Lo: 7, Hi: 7}
		}
		q.Frames[i] = api.Frame{Kind: api.Ping}
	}
	if !reflect.DeepEqual(other, p) || !reflect.DeepEqual(decoded(t, own), p) {
		t.Errorf("P2: what came out is not the caller's alone: %+v", other)
	}
}

func TestP2ListsOfOnePacketShareNothing(t *testing.T) {
	p := packet(1, ack(api.Range{Lo: 8, Hi: 9}, api.Range{Lo: 5, Hi: 6}, api.Range{Lo: 1, Hi: 2}), ack(api.Range{Lo: 3, Hi: 4}))
	q := decoded(t, encoded(t, p))
	_ = append(q.Frames[0].Ranges, api.Range{Lo: 7, Hi: 7})
	q.Frames[0].Ranges[0] = api.Range{Lo: 7, Hi: 7}
	if !reflect.DeepEqual(q.Frames[1], p.Frames[1]) {
		t.Errorf("P2: the second Ack turns with the first: %+v", q.Frames[1])
	}
}

func TestP2EmptyListsAreNil(t *testing.T) {
	q := decoded(t, sealed(t, "00"+"01"+"0800000161"))
	for _, f := range q.Frames {
		if f.Ranges != nil {
			t.Errorf("P2: a frame without ranges has %#v", f.Ranges)
		}
	}
}

func TestP2SetsKnowNothingOfOneAnother(t *testing.T) {
	a, b := mediawire.NewSet(1), mediawire.NewSet(1)
	a.Add(3, 3)
	a.Add(7, 7)
	if got := told(b); got != "[] 0" {
		t.Errorf("P2: a set knows of another: %s", got)
	}
	b.Add(0, 0)
	if got := told(a); got != "[{7 7}] 4" {
		t.Errorf("P2: a set knows of another: %s", got)
	}
}
