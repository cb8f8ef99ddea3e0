package mediawire_test

import (
	"bytes"
	"math/rand/v2"
	"slices"
	"testing"

	"mediawire/api"
	"mediawire/mediawire"
)

// caller: what the caller of a side does; sideModel does it too, and asks more of each call.
type caller interface {
	send(k int, b []byte)
	finish(k int)
	clock()
	packets() [][]byte
	receive(b []byte)
	read(k int, most int) ([]byte, int)
	reset(k int, keep int)
	datagram(id uint64, deadline uint64, b []byte) bool // false: sixteen wait
	datagrams() []api.Message
}

// plainCaller asks of the calls only that they have no error.
type plainCaller struct {
	t *testing.T
	c *mediawire.Conn
}

func (p plainCaller) send(k int, b []byte) { send(p.t, p.c, k, string(b)) }
func (p plainCaller) finish(k int)         { finish(p.t, p.c, k) }
func (p plainCaller) clock()               { p.c.Tick() }
func (p plainCaller) packets() [][]byte    { return p.c.Packets() }

func (p plainCaller) datagrams() []api.Message { return p.c.Datagrams() }

func (p plainCaller) reset(k int, keep int) {
	if err := p.c.Reset(k, keep); err != nil {
		p.t.Fatalf("P20: Reset(%d, %d) = %v", k, keep, err)
	}
}

func (p plainCaller) datagram(id uint64, deadline uint64, b []byte) bool {
	err := p.c.Datagram(id, deadline, b)
	if err != nil && err != api.ErrFull {
		p.t.Fatalf("P18: Datagram(%d, %d, %d bytes) = %v", id, deadline, len(b), err)
	}
	return err == nil
}

func (p plainCaller) receive(b []byte) {
	if err := p.c.Receive(b); err != nil && err != api.ErrSum {
		p.t.Fatalf("P12: Receive(%x) = %v", b, err)
	}
}

func (p plainCaller) read(k int, most int) ([]byte, int) {
	b, state, err := p.c.Read(k, most)
	if err != nil || p.c.Err() != nil {
		p.t.Fatalf("P15: Read(%d) = %v, Err = %v", k, err, p.c.Err())
	}
	return b, state
}

// talk: two sides, what was written to their streams, and what was read of them by the other side.
type talk struct {
	t      *testing.T
	random *rand.Rand
	api.Config
	side    [2]caller
	text    [2][8][]byte
	ended   [2][8]bool
	given   [2][8]bool
	keep    [2][8]int // of a stream that was given up: so many bytes must come
	got     [2][8][]byte
	state   [2][8]int
	tick    uint64
	ids     [2]uint64            // the id of a side's next datagram
	waits   [2]map[uint64]string // datagrams of a side that were not yet handed on by the other
	way     [2][][]byte          // sent by a side, and not yet there
	packets int
	reads   func(k int) []int // how many bytes are read of a stream in a tick, read by read
}

func newTalk(t *testing.T, seed uint64, c api.Config, side func() caller) *talk {
	return &talk{t: t, random: rand.New(rand.NewPCG(17, seed)), Config: c, side: [2]caller{side(), side()}, reads: readAll, waits: [2]map[uint64]string{{}, {}}}
}

func plainTalk(t *testing.T, seed uint64, c api.Config) *talk {
	return newTalk(t, seed, c, func() caller { return plainCaller{t, newSide(t, c)} })
}

func modelTalk(t *testing.T, seed uint64, c api.Config) *talk {
	return newTalk(t, seed, c, func() caller { return newSideModel(t, c) })
}

func readAll(int) []int { return []int{5000} }

// sixteen: no less than P17 counts on, byte by byte.
func sixteen(int) []int { return slices.Repeat([]int{1}, 16) }

func (x *talk) write(side int, k int, b []byte) {
	b = b[:min(len(b), 2048-len(x.text[side][k]))]
	if !x.ended[side][k] && !x.given[side][k] {
		x.side[side].send(k, b)
		x.text[side][k] = append(x.text[side][k], b...)
	}
}

func (x *talk) end(side int, k int) {
	if !x.ended[side][k] && !x.given[side][k] {
		x.side[side].finish(k)
		x.ended[side][k] = true
	}
}

func (x *talk) giveUp(side int, k int, keep int) {
	x.side[side].reset(k, keep)
	if !x.given[side][k] {
		x.given[side][k], x.keep[side][k] = true, len(x.text[side][k])
	}
	x.keep[side][k] = min(x.keep[side][k], max(keep, 0))
}

func (x *talk) message(side int, deadline uint64, b []byte) {
	if x.side[side].datagram(x.ids[side], deadline, b) {
		x.waits[side][x.ids[side]] = string(b)
	}
	x.ids[side] += 1 + uint64(x.random.IntN(3))
}

// messages: what is handed on was sent, and was not handed on yet.
func (x *talk) messages(side int) {
	for _, m := range x.side[1-side].datagrams() {
		text, ok := x.waits[side][m.Id]
		if !ok || text != m.Data {
			x.t.Fatalf("P19: datagram %d, %q: %q was sent, and not handed on yet: %t", m.Id, m.Data, text, ok)
		}
		delete(x.waits[side], m.Id)
	}
}

// bytes: how many were written, by both.
func (x *talk) bytes() int {
	n := 0
	for side := range x.text {
		for k := range x.text[side] {
			n += len(x.text[side][k])
		}
	}
	return n
}

// bound: the ticks that P17 has.
func (x *talk) bound() int {
	window := min(x.Window, x.Total)
	return 60 + 2*((x.bytes()+window-1)/window) + x.bytes()/16
}

// read: what came is read, at the side that reads what the other wrote.
func (x *talk) read(writer int) {
	x.messages(writer)
	for k := range 8 {
		for _, most := range x.reads(k) {
			b, state := x.side[1-writer].read(k, most)
			if x.state[writer][k] != api.Open && (b != nil || state != x.state[writer][k]) {
				x.t.Fatalf("P15: stream %d: %q, %d behind the state %d", k, b, state, x.state[writer][k])
			}
			x.got[writer][k] = append(x.got[writer][k], b...)
			x.state[writer][k] = state
		}
		if !bytes.HasPrefix(x.text[writer][k], x.got[writer][k]) {
			x.t.Fatalf("P11, P15: stream %d: other bytes are read than were written", k)
		}
	}
}

func (x *talk) sendNow(side int) int {
	l := x.side[side].packets()
	x.way[side] = append(x.way[side], l...)
	x.packets += len(l)
	return len(l)
}

func (x *talk) comeAll(side int) {
	for _, b := range x.way[side] {
		x.side[1-side].receive(b)
	}
	x.way[side] = nil
}

// bad: a tick of a network that loses, doubles, turns around and spoils packets.
func (x *talk) bad(losses int) {
	x.tick++
	for side := range 2 {
		x.side[side].clock()
		for range x.random.IntN(3) {
			x.sendNow(side)
		}
		for len(x.way[side]) > 0 && x.random.IntN(5) > 0 {
			at := x.random.IntN(min(len(x.way[side]), 5))
			p := x.way[side][at]
			x.way[side] = slices.Delete(x.way[side], at, at+1)
			x.deliver(losses, p, x.side[1-side])
		}
		x.read(1 - side)
	}
}

func (x *talk) deliver(losses int, p []byte, to caller) {
	switch n := x.random.IntN(100); {
	case n < losses:
		return
	case n%5 == 0:
		damaged := bytes.Clone(p)
		damaged[x.random.IntN(len(p))] ^= 1 << x.random.IntN(8)
		to.receive(damaged)
	case n%5 == 1:
		to.receive(p)
	}
	to.receive(p)
}

// fair: a tick in which all that is sent comes; how many packets were sent. The order of what the sides do in a tick is theirs.
func (x *talk) fair(order int) int {
	x.tick++
	x.side[0].clock()
	x.side[1].clock()
	n := 0
	switch order % 3 {
	case 0: // both send ahead of what comes
		n = x.sendNow(0) + x.sendNow(1)
		x.comeAll(0)
		x.comeAll(1)
	case 1:
		for side := range 2 {
			n += x.sendNow(side)
			x.comeAll(side)
		}
	default: // what is read is granted in the tick
		for side := range 2 {
			x.read(side)
			n += x.sendNow(side)
			x.comeAll(side)
		}
		return n
	}
	x.read(0)
	x.read(1)
	return n
}

// ends asks P17 of the talk: from now on the network is fair.
func (x *talk) ends(order int) {
	x.t.Helper()
	for range x.bound() {
		x.fair(order)
	}
	for range 30 {
		if n := x.fair(order); n > 0 {
			x.t.Fatalf("P17: %+v, order %d: %d bytes: behind %d ticks %d packets are sent", x.Config, order, x.bytes(), x.bound(), n)
		}
	}
	for side := range 2 {
		for k := range 8 {
			if !x.given[side][k] {
				x.cameWhole(side, k, order)
			} else {
				x.cameInPart(side, k, order)
			}
		}
	}
}

func (x *talk) cameWhole(side int, k int, order int) {
	if !bytes.Equal(x.got[side][k], x.text[side][k]) {
		x.t.Fatalf("P17: %+v, order %d: stream %d: behind %d ticks %d bytes of %d came", x.Config, order, k, x.bound(), len(x.got[side][k]), len(x.text[side][k]))
	}
	if x.ended[side][k] != (x.state[side][k] == api.Finished) || x.state[side][k] == api.Reset {
		x.t.Fatalf("P17: %+v, order %d: stream %d ended: %t; its state is %d", x.Config, order, k, x.ended[side][k], x.state[side][k])
	}
}

// cameInPart: of a stream that was given up. (One that was read to its end ahead of that stays Finished.)
func (x *talk) cameInPart(side int, k int, order int) {
	if len(x.got[side][k]) < x.keep[side][k] {
		x.t.Fatalf("P17, P20: %+v, order %d: stream %d was given up but for %d bytes: %d came", x.Config, order, k, x.keep[side][k], len(x.got[side][k]))
	}
	if finished := x.ended[side][k] && x.state[side][k] == api.Finished; x.state[side][k] != api.Reset && !finished {
		x.t.Fatalf("P17, P20: %+v, order %d: stream %d was given up; its state is %d", x.Config, order, k, x.state[side][k])
	}
}

// extremes: the smallest and the greatest of all that a configuration has.
func extremes() []api.Config {
	var l []api.Config
	for _, mtu := range []int{64, 400} {
		for _, window := range []int{16, 4096} {
			for _, total := range []int{16, 4096} {
				l = append(l, api.Config{MTU: mtu, Window: window, Total: total})
			}
		}
	}
	return l
}

// TestP8ToP20Talk: every call is held to what the model of a side knows, over a bad network and then over a fair one.
func TestP8ToP20Talk(t *testing.T) {
	packets := 0
	for seed := range uint64(200) {
		random := rand.New(rand.NewPCG(8, seed))
		x := modelTalk(t, seed, randomConfig(random))
		x.reads = func(int) []int { return []int{random.IntN(1 << random.IntN(12)), 16} }
		losses := []int{0, 5, 30, 70, 100}[random.IntN(5)]
		for range 40 {
			for side := range 2 {
				if random.IntN(2) == 0 {
					x.write(side, random.IntN(8), randomText(random, 1<<random.IntN(9)))
				}
				if random.IntN(12) == 0 {
					x.end(side, random.IntN(8))
				}
				if seed%2 == 0 && random.IntN(12) == 0 {
					x.giveUp(side, random.IntN(8), random.IntN(1<<random.IntN(12))-3)
				}
				for range random.IntN(1 + int(seed%4)*5) {
					x.message(side, x.tick+uint64(random.IntN(5)), randomText(random, x.MTU-40))
				}
			}
			x.bad(losses)
		}
		if random.IntN(2) == 0 {
			x.way = [2][][]byte{}
		}
		x.ends(int(seed))
		packets += x.packets
	}
	if packets < 10000 {
		t.Errorf("only %d packets: the test asks for too little", packets)
	}
}

func TestP17NoBytesAtAll(t *testing.T) {
	for i, c := range extremes() {
		x := plainTalk(t, uint64(i), c)
		x.ends(i)
		if x.packets != 0 {
			t.Errorf("P17: %+v: nothing was written, and %d packets were sent", c, x.packets)
		}
		x = modelTalk(t, uint64(i), c)
		for k := range 8 {
			x.end(0, k)
			x.end(1, 7-k)
			x.bad(90)
		}
		x.ends(i)
	}
}

// full: 2,048 bytes in each stream, in both directions.
func (x *talk) full() {
	for side := range 2 {
		for k := range 8 {
			x.write(side, k, bytes.Repeat([]byte{byte('a' + k), byte('0' + side), byte(x.random.Uint32())}, 700))
			x.end(side, k)
		}
	}
}

func TestP17AllBytesThatStreamsCanHave(t *testing.T) {
	for i, c := range extremes() {
		for order := range 3 {
			x := plainTalk(t, uint64(i), c)
			x.full()
			x.ends(order)
			x = plainTalk(t, uint64(i), c)
			x.reads = sixteen
			x.full()
			for range 60 {
				x.bad(30)
			}
			x.way = [2][][]byte{}
			x.ends(order)
		}
	}
}

func TestP17OneDirection(t *testing.T) {
	for i, c := range extremes() {
		for _, length := range []int{1, 15, 16, 17, 2047, 2048} {
			for order := range 3 {
				x := plainTalk(t, uint64(i), c)
				x.reads = sixteen
				k := (i + order) % 8
				x.write(0, k, bytes.Repeat([]byte("x"), length))
				x.end(0, k)
				x.sendNow(0)
				x.way = [2][][]byte{}
				x.ends(order)
			}
		}
	}
}

// TestP17WhatIsOnItsWayWhenTheNetworkBecomesFair: all that was ever sent is lost, up to some tick.
func TestP17WhatIsOnItsWayWhenTheNetworkBecomesFair(t *testing.T) {
	for seed := range uint64(200) {
		random := rand.New(rand.NewPCG(17, seed))
		x := plainTalk(t, seed, randomConfig(random))
		x.reads = sixteen
		for range random.IntN(20) {
			x.write(random.IntN(2), random.IntN(8), randomText(random, 300))
			if random.IntN(4) == 0 {
				x.end(random.IntN(2), random.IntN(8))
			}
			x.bad(0)
		}
		for range random.IntN(20) {
			x.bad(100)
		}
		x.way = [2][][]byte{}
		x.ends(int(seed))
	}
}

// TestP17AcksAloneAreLost: all comes but what the reader answers and grants.
func TestP17AcksAloneAreLost(t *testing.T) {
	for i, c := range extremes() {
		x := modelTalk(t, uint64(i), c)
		for k := range 8 {
			x.write(0, k, bytes.Repeat([]byte{byte('a' + k)}, 100))
			x.end(0, k)
		}
		for range 40 {
			x.side[0].clock()
			x.side[1].clock()
			x.sendNow(0)
			x.comeAll(0)
			x.read(0)
			x.sendNow(1)
			x.way[1] = nil
		}
		x.ends(i)
	}
}

// TestP17PacketsThatComeLate: what the bad network had kept comes when it is fair, and undoes nothing.
func TestP17PacketsThatComeLate(t *testing.T) {
	for seed := range uint64(60) {
		random := rand.New(rand.NewPCG(18, seed))
		x := modelTalk(t, seed, randomConfig(random))
		var kept [2][][]byte
		for range 30 {
			x.write(random.IntN(2), random.IntN(8), randomText(random, 60))
			x.end(random.IntN(2), random.IntN(200)%8)
			for side := range 2 {
				x.side[side].clock()
				x.sendNow(side)
				if random.IntN(2) == 0 {
					kept[side] = append(kept[side], x.way[side]...)
					x.way[side] = nil
				}
				x.comeAll(side)
			}
			x.read(0)
			x.read(1)
		}
		for range 20 {
			x.fair(int(seed))
			for side := range 2 {
				if n := len(kept[side]); n > 0 {
					x.side[1-side].receive(kept[side][n-1])
					kept[side] = kept[side][:n-1]
				}
			}
		}
		x.ends(int(seed))
	}
}
