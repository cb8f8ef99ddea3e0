package mediawire_test

import (
	"bytes"
	"errors"
	"math"
	"math/rand/v2"
	"reflect"
	"strings"
	"testing"

	"mediawire/api"
	"mediawire/mediawire"
)

// small: a configuration whose grants are soon used up.
var small = api.Config{MTU: 64, Window: 20, Total: 30}

// wide: one whose grants are never used up.
var wide = api.Config{MTU: 400, Window: 4096, Total: 4096}

func newSide(t testing.TB, c api.Config) *mediawire.Conn {
	t.Helper()
	x, err := mediawire.New(c)
	if x == nil || err != nil {
		t.Fatalf("P8: New(%+v) = %v, %v", c, x, err)
	}
	return x
}

// closedSide: one that an error has closed.
func closedSide(t testing.TB) *mediawire.Conn {
	t.Helper()
	c := newSide(t, small)
	if err := c.Receive(encoded(t, packet(0, data(0, 21, "", false)))); err != api.ErrFlow {
		t.Fatalf("P13: Receive = %v", err)
	}
	return c
}

func data(k int, offset uint64, text string, fin bool) api.Frame {
	return api.Frame{Kind: api.Data, Stream: k, Offset: offset, Data: text, Fin: fin}
}

func maxData(limit uint64) api.Frame { return api.Frame{Kind: api.MaxData, Limit: limit} }

func maxStream(k int, limit uint64) api.Frame {
	return api.Frame{Kind: api.MaxStream, Stream: k, Limit: limit}
}

func resetAt(k int, offset uint64, reliable uint64) api.Frame {
	return api.Frame{Kind: api.ResetAt, Stream: k, Offset: offset, Reliable: reliable}
}

func datagram(id uint64, deadline uint64, text string) api.Frame {
	return api.Frame{Kind: api.Datagram, Id: id, Deadline: deadline, Data: text}
}

func one(n uint64) api.Range { return api.Range{Lo: n, Hi: n} }

func send(t testing.TB, c *mediawire.Conn, k int, text string) {
	t.Helper()
	if err := c.Send(k, []byte(text)); err != nil {
		t.Fatalf("P9: Send(%d, %d bytes) = %v", k, len(text), err)
	}
}

func finish(t testing.TB, c *mediawire.Conn, k int) {
	t.Helper()
	if err := c.Finish(k); err != nil {
		t.Fatalf("P9: Finish(%d) = %v", k, err)
	}
}

// come: a packet of these frames comes, and nothing is wrong with it.
func come(t testing.TB, c *mediawire.Conn, number uint64, frames ...api.Frame) {
	t.Helper()
	if err := c.Receive(encoded(t, packet(number, frames...))); err != nil {
		t.Fatalf("P12: Receive(%d, %+v) = %v", number, frames, err)
	}
}

// sent: the packets that the side sends now.
func sent(t testing.TB, c *mediawire.Conn) []api.Packet {
	t.Helper()
	var l []api.Packet
	for _, b := range c.Packets() {
		l = append(l, decoded(t, b))
	}
	return l
}

// frames: all frames of packets, of one kind.
func frames(l []api.Packet, kind int) []api.Frame {
	var found []api.Frame
	for _, p := range l {
		for _, f := range p.Frames {
			if f.Kind == kind {
				found = append(found, f)
			}
		}
	}
	return found
}

// lengths: how many bytes of each stream there are in packets.
func lengths(l []api.Packet) [8]int {
	var n [8]int
	for _, f := range frames(l, api.Data) {
		n[f.Stream] += len(f.Data)
	}
	return n
}

func reads(t testing.TB, c *mediawire.Conn, k int, most int, text string, state int) {
	t.Helper()
	b, got, err := c.Read(k, most)
	if string(b) != text || got != state || err != nil || b != nil && len(b) == 0 {
		t.Errorf("P15: Read(%d, %d) = %q, %d, %v, want %q, %d", k, most, b, got, err, text, state)
	}
}

// carry: all packets of a come to b.
func carry(t testing.TB, a, b *mediawire.Conn) []api.Packet {
	t.Helper()
	l := sent(t, a)
	for _, p := range l {
		come(t, b, p.Number, p.Frames...)
	}
	return l
}

func TestP8Bounds(t *testing.T) {
	for _, c := range []api.Config{
		{MTU: 64, Window: 16, Total: 16},
		{MTU: 400, Window: 16, Total: 16},
		{MTU: 64, Window: 4096, Total: 16},
		{MTU: 64, Window: 16, Total: 4096},
		{MTU: 400, Window: 4096, Total: 4096},
	} {
		if err := newSide(t, c).Err(); err != nil {
			t.Errorf("P8: Err of New(%+v) = %v", c, err)
		}
	}
	for _, c := range []api.Config{
		{},
		{MTU: 63, Window: 16, Total: 16},
		{MTU: 401, Window: 16, Total: 16},
		{MTU: 64, Window: 15, Total: 16},
		{MTU: 64, Window: 4097, Total: 16},
		{MTU: 64, Window: 16, Total: 15},
		{MTU: 64, Window: 16, Total: 4097},
		{MTU: -64, Window: 16, Total: 16},
		{MTU: 64, Window: math.MinInt, Total: 16},
		{MTU: 64, Window: 16, Total: math.MaxInt},
		{MTU: math.MaxInt, Window: math.MaxInt, Total: math.MaxInt},
	} {
		if x, err := mediawire.New(c); x != nil || err != api.ErrConfig {
			t.Errorf("P8: New(%+v) = %v, %v", c, x, err)
		}
	}
}

func TestP8ConfigurationIsThatOfTheSide(t *testing.T) {
	a, b := newSide(t, api.Config{MTU: 64, Window: 16, Total: 4096}), newSide(t, wide)
	for _, c := range []*mediawire.Conn{a, b} {
		send(t, c, 3, strings.Repeat("x", 100))
		c.Tick()
	}
	if x, y := lengths(sent(t, a)), lengths(sent(t, b)); x[3] != 16 || y[3] != 100 {
		t.Errorf("P8: %d and %d bytes are sent", x[3], y[3])
	}
}

func TestP9StreamsThatAreNone(t *testing.T) {
	c := newSide(t, small)
	for _, k := range []int{-1, 8, 9, math.MinInt, math.MaxInt} {
		if err := c.Send(k, []byte("x")); err != api.ErrStream {
			t.Errorf("P9: Send(%d) = %v", k, err)
		}
		if err := c.Finish(k); err != api.ErrStream {
			t.Errorf("P9: Finish(%d) = %v", k, err)
		}
		if b, state, err := c.Read(k, 1); b != nil || state != 0 || err != api.ErrStream {
			t.Errorf("P15: Read(%d) = %q, %d, %v", k, b, state, err)
		}
	}
	for k := range 8 {
		send(t, c, k, "x")
		reads(t, c, k, 1, "", api.Open)
		finish(t, c, k)
	}
	if l := c.Packets(); c.Err() != nil || len(l) == 0 {
		t.Errorf("P9: %v, %d packets", c.Err(), len(l))
	}
}

func TestP9OrderOfErrors(t *testing.T) {
	tooMuch := make([]byte, 2049)
	c := closedSide(t)
	if err := c.Send(8, tooMuch); err != api.ErrClosed {
		t.Errorf("P9: Send of a side that is closed: %v", err)
	}
	if err := c.Finish(-1); err != api.ErrClosed {
		t.Errorf("P9: Finish of a side that is closed: %v", err)
	}
	if err := c.Send(0, nil); err != api.ErrClosed {
		t.Errorf("P9: Send of a side that is closed: %v", err)
	}
	c = newSide(t, small)
	if err := c.Send(8, tooMuch); err != api.ErrStream {
		t.Errorf("P9: Send of too much to no stream: %v", err)
	}
	finish(t, c, 2)
	if err := c.Send(2, tooMuch); err != api.ErrState {
		t.Errorf("P9: Send of too much behind the end: %v", err)
	}
}

func TestP9StreamThatWasFinished(t *testing.T) {
	c := newSide(t, small)
	send(t, c, 1, "ab")
	finish(t, c, 1)
	if err := c.Send(1, nil); err != api.ErrState {
		t.Errorf("P9: Send of nothing behind the end: %v", err)
	}
	if err := c.Send(1, []byte("c")); err != api.ErrState {
		t.Errorf("P9: Send behind the end: %v", err)
	}
	if err := c.Finish(1); err != api.ErrState {
		t.Errorf("P9: Finish once more: %v", err)
	}
	send(t, c, 0, "other")
	want := []api.Frame{data(0, 0, "other", false), data(1, 0, "ab", true)}
	if got := frames(sent(t, c), api.Data); !reflect.DeepEqual(got, want) {
		t.Errorf("P9: %+v, want %+v", got, want)
	}
	if err := c.Send(1, nil); err != api.ErrState {
		t.Errorf("P9: Send behind the end, which was sent: %v", err)
	}
}

func TestP9BytesInAll(t *testing.T) {
	c := newSide(t, wide)
	if err := c.Send(4, make([]byte, 2049)); err != api.ErrFull {
		t.Errorf("P9: Send of 2049 bytes: %v", err)
	}
	send(t, c, 4, strings.Repeat("a", 2000))
	if err := c.Send(4, make([]byte, 49)); err != api.ErrFull {
		t.Errorf("P9: 2049 bytes in two: %v", err)
	}
	send(t, c, 4, strings.Repeat("b", 48))
	send(t, c, 4, "")
	if err := c.Send(4, make([]byte, 1)); err != api.ErrFull {
		t.Errorf("P9: one byte more: %v", err)
	}
	send(t, c, 5, strings.Repeat("c", 2048))
	finish(t, c, 4)
	var got strings.Builder
	for _, f := range frames(sent(t, c), api.Data) {
		if f.Stream == 4 {
			got.WriteString(f.Data)
		}
	}
	if want := strings.Repeat("a", 2000) + strings.Repeat("b", 48); got.String() != want {
		t.Errorf("P9: what was refused is sent: %d bytes", got.Len())
	}
}

func TestP9BytesThatCameStillCount(t *testing.T) {
	a, b := newSide(t, wide), newSide(t, wide)
	send(t, a, 0, strings.Repeat("a", 2048))
	carry(t, a, b)
	reads(t, b, 0, 5000, strings.Repeat("a", 2048), api.Open)
	carry(t, b, a)
	if err := a.Send(0, []byte("b")); err != api.ErrFull {
		t.Errorf("P9: 2049 bytes, of which 2048 came: %v", err)
	}
}

func TestP15Err(t *testing.T) {
	c := newSide(t, small)
	c.Tick()
	if c.Err() != nil {
		t.Errorf("P21: Err of a side that is open: %v", c.Err())
	}
	c = closedSide(t)
	for range 2 {
		if c.Err() != api.ErrFlow {
			t.Errorf("P21: Err = %v", c.Err())
		}
		c.Tick()
		c.Packets()
	}
}

func TestP1SidesThatNewDidNotMake(t *testing.T) {
	for _, c := range []*mediawire.Conn{nil, {}} {
		c.Tick()
		b, state, read := c.Read(0, 1)
		for i, err := range []error{c.Send(0, []byte("x")), c.Finish(0), c.Reset(0, 1), c.Datagram(1, 1, nil), c.Close(), c.Receive(nil), read, c.Err()} {
			if err != api.ErrClosed {
				t.Errorf("P1: row %d: %v", i, err)
			}
		}
		if l := c.Packets(); l != nil || b != nil || state != 0 || c.Datagrams() != nil {
			t.Errorf("P1: %x, %q, %d", l, b, state)
		}
	}
}

// TestP1CallsAtAllNumbers: whatever a side is given, in whatever order, each call ends.
func TestP1CallsAtAllNumbers(t *testing.T) {
	random := rand.New(rand.NewPCG(1, 21))
	whole := func() int { return int(number(random)) * (1 - 2*random.IntN(2)) }
	stream := func() int {
		if random.IntN(4) == 0 {
			return whole()
		}
		return random.IntN(8)
	}
	for range 300 {
		a, b := newSide(t, randomConfig(random)), newSide(t, randomConfig(random))
		for range 100 {
			if random.IntN(2) == 0 {
				a, b = b, a
			}
			a.Send(stream(), randomText(random, 1<<random.IntN(12)))
			a.Reset(stream(), whole())
			a.Datagram(number(random), number(random), randomText(random, 400))
			a.Read(stream(), whole())
			switch random.IntN(40) {
			case 0:
				a.Finish(stream())
			case 1:
				ticks(a, random.IntN(10))
			case 2:
				mediawire.Pump(a, b, random.IntN(20))
			case 3:
				a.Datagrams()
			case 4:
				mediawire.Pump(a, b, min(whole(), 0))
			case 5:
				if random.IntN(20) == 0 {
					a.Close()
				}
			default:
				for _, p := range a.Packets() {
					b.Receive(p)
				}
			}
			a.Err()
		}
	}
}

func TestP2SendKeepsNothing(t *testing.T) {
	c := newSide(t, wide)
	b := []byte("hello")
	for range 3 {
		if err := c.Send(0, b[:3]); err != nil {
			t.Fatal(err)
		}
	}
	if string(b) != "hello" {
		t.Errorf("P2: Send writes into what was handed in: %q", b)
	}
	copy(b, "!!!!!")
	if got := frames(sent(t, c), api.Data); len(got) != 1 || got[0].Data != "helhelhel" {
		t.Errorf("P2: Send keeps what was handed in: %+v", got)
	}
}

func TestP2ReceiveKeepsNothing(t *testing.T) {
	c := newSide(t, wide)
	for i, f := range []api.Frame{data(0, 0, "abc", false), ack(one(0))} {
		b := encoded(t, packet(uint64(i), f))
		own := bytes.Clone(b)
		if i == 1 {
			c.Packets()
		}
		if err := c.Receive(b); err != nil || !bytes.Equal(b, own) {
			t.Errorf("P2: Receive(%x) = %v: %x", own, err, b)
		}
		for k := range b {
			b[k] = '!'
		}
	}
	reads(t, c, 0, 9, "abc", api.Open)
}

func TestP2WhatComesOutIsTheCallers(t *testing.T) {
	texts := func(spoil bool) []string {
		a, b := newSide(t, small), newSide(t, small)
		var l []string
		for k := range 3 {
			send(t, a, k, "0123456789")
		}
		finish(t, a, 2)
		for range 6 {
			for _, x := range [][2]*mediawire.Conn{{a, b}, {b, a}} {
				for _, p := range x[0].Packets() {
					l = append(l, string(p))
					if err := x[1].Receive(p); err != nil {
						t.Fatal(err)
					}
					if spoil {
						copy(p, strings.Repeat("!", len(p)))
						_ = append(p, "!!!!!!!!"...)
					}
				}
			}
			for k := range 3 {
				p, _, _ := b.Read(k, 3)
				l = append(l, string(p))
				if spoil {
					copy(p, "!!!")
					_ = append(p, "!!!!!!!!"...)
				}
			}
		}
		return l
	}
	if x, y := texts(false), texts(true); !reflect.DeepEqual(x, y) {
		t.Errorf("P2: what was handed out turns the side:\n%q\n%q", x, y)
	}
}

func TestP2ListsThatAreEmptyAreNil(t *testing.T) {
	c := newSide(t, small)
	if l := c.Packets(); l != nil {
		t.Errorf("P2: Packets of nothing = %v", l)
	}
	if b, _, err := c.Read(0, 5); b != nil || err != nil {
		t.Errorf("P2: Read of nothing = %v, %v", b, err)
	}
	if l := closedSide(t); len(l.Packets()) != 1 || l.Packets() != nil {
		t.Errorf("P2: Packets of a side that has parted are not nil")
	}
}

func TestP2SidesKnowNothingOfOneAnother(t *testing.T) {
	a, b := newSide(t, small), newSide(t, small)
	send(t, a, 0, "abc")
	come(t, a, 5, data(0, 0, "xyz", true))
	if l := b.Packets(); l != nil || b.Err() != nil {
		t.Errorf("P2: %x", l)
	}
	reads(t, b, 0, 5, "", api.Open)
	if err := a.Receive(encoded(t, packet(6, data(0, 99, "", false)))); !errors.Is(err, api.ErrFinal) {
		t.Fatal(err)
	}
	if b.Err() != nil {
		t.Errorf("P2: %v", b.Err())
	}
}
