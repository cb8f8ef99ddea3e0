package mediawire_test

import (
	"math"
	"reflect"
	"slices"
	"strings"
	"testing"

	"mediawire/api"
	"mediawire/mediawire"
)

func TestP10GreatestPacket(t *testing.T) {
	for _, mtu := range []int{64, 65, 70, 71, 72, 73, 74, 75, 76, 77, 78, 79, 80, 127, 128, 129, 200, 399, 400} {
		c := newSide(t, api.Config{MTU: mtu, Window: 4096, Total: 4096})
		for k := range 8 {
			send(t, c, k, strings.Repeat("x", 400))
		}
		l := c.Packets()
		for i, b := range l {
			if len(b) > mtu {
				t.Errorf("P10: MTU %d: a packet of %d bytes", mtu, len(b))
			}
			if i < len(l)-1 && len(b) < mtu-5 {
				t.Errorf("P10: MTU %d: packet %d has %d bytes, and there is more to send", mtu, i, len(b))
			}
		}
	}
}

func TestP10NumbersFollowOneAnother(t *testing.T) {
	a, b := newSide(t, small), newSide(t, small)
	next := [2]uint64{}
	for round := range 100 {
		if round < 60 {
			send(t, a, round%8, strings.Repeat("x", 20))
			send(t, b, round%3, "yz")
		}
		for i, x := range [][2]*mediawire.Conn{{a, b}, {b, a}} {
			for _, p := range carry(t, x[0], x[1]) {
				if p.Number != next[i] {
					t.Fatalf("P10: packet %d, and %d is next", p.Number, next[i])
				}
				next[i]++
			}
			for k := range 8 {
				x[1].Read(k, 7)
			}
		}
	}
	if next[0] < 70 {
		t.Errorf("only %d packets: the test asks for too little", next[0])
	}
}

// order: the place of a kind of frame in a packet.
func order(kind int) int {
	switch kind {
	case api.Ack, api.MaxData, api.MaxStream, api.ResetAt:
		return 1
	case api.Datagram:
		return 2
	case api.Data:
		return 3
	}
	return 0
}

func TestP10OrderOfFrames(t *testing.T) {
	c := newSide(t, wide)
	for k := range 8 {
		come(t, c, uint64(2*k), data(k, 0, "abc", false))
		reads(t, c, k, 2, "ab", api.Open)
		send(t, c, k, strings.Repeat("x", 90))
		finish(t, c, k)
	}
	var kinds []int
	l := sent(t, c)
	for _, p := range l {
		last := 1
		for _, f := range p.Frames {
			if order(f.Kind) < last {
				t.Errorf("P10: packet %d: a frame of kind %d behind %d", p.Number, f.Kind, last)
			}
			last = order(f.Kind)
			kinds = append(kinds, f.Kind)
		}
	}
	for _, kind := range []int{api.Ack, api.MaxData, api.MaxStream, api.Data} {
		if !slices.Contains(kinds, kind) {
			t.Errorf("P10: no frame of kind %d: the test asks for too little", kind)
		}
	}
	if n := lengths(l); n != [8]int{90, 90, 90, 90, 90, 90, 90, 90} {
		t.Errorf("P10: %v bytes are sent", n)
	}
}

func TestP10AllThatMayBeSent(t *testing.T) {
	c := newSide(t, api.Config{MTU: 64, Window: 100, Total: 150})
	for k := range 3 {
		send(t, c, k, strings.Repeat("x", 30))
	}
	finish(t, c, 1)
	finish(t, c, 7)
	l := sent(t, c)
	if n := lengths(l); n != [8]int{30, 30, 30} {
		t.Errorf("P10: %v bytes are sent", n)
	}
	ends := 0
	for _, f := range frames(l, api.Data) {
		if f.Fin {
			ends |= 1 << f.Stream
		}
	}
	if ends != 1<<1|1<<7 {
		t.Errorf("P10: the ends %b are sent", ends)
	}
	if l := c.Packets(); l != nil {
		t.Errorf("P10: what was sent is sent once more: %x", l)
	}
	send(t, c, 0, "more")
	finish(t, c, 2)
	want := []api.Frame{data(0, 30, "more", false), data(2, 30, "", true)}
	if got := frames(sent(t, c), api.Data); !reflect.DeepEqual(got, want) {
		t.Errorf("P10: %+v, want %+v", got, want)
	}
	finish(t, c, 0)
	want = []api.Frame{data(0, 34, "", true)}
	if got := frames(sent(t, c), api.Data); !reflect.DeepEqual(got, want) {
		t.Errorf("P10: %+v, want %+v", got, want)
	}
}

// crowded: a side with so many packets on their way as there may be, and more to send.
func crowded(t *testing.T) *mediawire.Conn {
	t.Helper()
	c := newSide(t, api.Config{MTU: 64, Window: 4096, Total: 4096})
	send(t, c, 0, strings.Repeat("x", 1000))
	if l := sent(t, c); len(l) != 12 {
		t.Fatalf("P10, P16: %d packets are on their way", len(l))
	}
	return c
}

func TestP10TwelvePacketsOnTheirWay(t *testing.T) {
	c := crowded(t)
	if l := c.Packets(); l != nil {
		t.Errorf("P10, P16: %d packets more", len(l))
	}
	come(t, c, 0, ack(one(3), api.Range{Lo: 0, Hi: 1}))
	if l := sent(t, c); len(l) != 3 || l[0].Number != 12 {
		t.Errorf("P10, P16: three packets came, %d follow them", len(l))
	}
	come(t, c, 1, ack(one(3), api.Range{Lo: 0, Hi: 1}))
	if l := c.Packets(); l != nil {
		t.Errorf("P10, P16: none came since then, %d follow", len(l))
	}
	come(t, c, 2, ack(api.Range{Lo: 0, Hi: 14}))
	if l := sent(t, c); lengths(l)[0] == 0 {
		t.Errorf("P10: %+v", l)
	}
}

func TestP10AnswersNeedNoRoomOnTheWay(t *testing.T) {
	c := crowded(t)
	come(t, c, 9, data(0, 0, "abc", false))
	reads(t, c, 0, 9, "abc", api.Open)
	want := []api.Packet{packet(12, ack(one(9)))}
	if got := sent(t, c); !reflect.DeepEqual(got, want) {
		t.Errorf("P10, P11, P16: %+v, want %+v", got, want)
	}
	come(t, c, 10, ack(api.Range{Lo: 0, Hi: 12}))
	l := sent(t, c)
	if len(frames(l, api.MaxData)) != 1 || lengths(l)[0] == 0 {
		t.Errorf("P10: what had no room is not sent: %+v", l)
	}
}

func TestP11AnswersAreNotOnTheirWay(t *testing.T) {
	c := newSide(t, api.Config{MTU: 64, Window: 4096, Total: 4096})
	for n := range uint64(20) {
		come(t, c, n, api.Frame{Kind: api.Ping})
		if l := sent(t, c); len(l) != 1 || len(l[0].Frames) != 1 {
			t.Fatalf("P11: the answer is %+v", l)
		}
	}
	send(t, c, 0, strings.Repeat("x", 1000))
	if l := sent(t, c); len(l) != 12 {
		t.Errorf("P16: %d packets follow twenty answers", len(l))
	}
}

func TestP11BytesAsTheyWereWritten(t *testing.T) {
	c := newSide(t, api.Config{MTU: 64, Window: 20, Total: 4096})
	var text [8]string
	for i := range 40 {
		k := i % 3
		part := strings.Repeat(string(rune('a'+i%26)), i)
		send(t, c, k, part)
		text[k] += part
	}
	var got [8]string
	for round := range uint64(40) {
		l := sent(t, c)
		for _, f := range frames(l, api.Data) {
			if f.Data == "" || f.Fin || f.Offset != uint64(len(got[f.Stream])) {
				t.Fatalf("P11: %+v", f)
			}
			got[f.Stream] += f.Data
		}
		for _, p := range l {
			come(t, c, 1000+p.Number, ack(one(p.Number)))
		}
		come(t, c, round, maxStream(0, 10*round), maxStream(1, 20*round), maxStream(2, 9*round))
	}
	if got != text {
		t.Errorf("P11: %q, want %q", got, text)
	}
}

func TestP11FinWithTheLastBytesAlone(t *testing.T) {
	c := newSide(t, small)
	send(t, c, 0, strings.Repeat("x", 25))
	finish(t, c, 0)
	want := []api.Frame{data(0, 0, strings.Repeat("x", 20), false)}
	if got := frames(sent(t, c), api.Data); !reflect.DeepEqual(got, want) {
		t.Errorf("P11: %+v, want %+v", got, want)
	}
	come(t, c, 0, maxStream(0, 24))
	want = []api.Frame{data(0, 20, "xxxx", false)}
	if got := frames(sent(t, c), api.Data); !reflect.DeepEqual(got, want) {
		t.Errorf("P11: %+v, want %+v", got, want)
	}
	come(t, c, 1, maxStream(0, 25))
	want = []api.Frame{data(0, 24, "x", true)}
	if got := frames(sent(t, c), api.Data); !reflect.DeepEqual(got, want) {
		t.Errorf("P11: %+v, want %+v", got, want)
	}
	if l := c.Packets(); l != nil {
		t.Errorf("P11: %x", l)
	}
}

func TestP11EndOfAStreamWithoutRoomForMore(t *testing.T) {
	c := newSide(t, small)
	send(t, c, 0, strings.Repeat("x", 20))
	send(t, c, 1, strings.Repeat("x", 10))
	c.Packets()
	finish(t, c, 0)
	finish(t, c, 5)
	want := []api.Frame{data(0, 20, "", true), data(5, 0, "", true)}
	if got := frames(sent(t, c), api.Data); !reflect.DeepEqual(got, want) {
		t.Errorf("P11: ends that need no grant: %+v, want %+v", got, want)
	}
}

func TestP11GrantsThatCame(t *testing.T) {
	c := newSide(t, small)
	for k := range 3 {
		send(t, c, k, strings.Repeat("x", 100))
	}
	for i, step := range []struct {
		come []api.Frame
		sent [8]int
	}{
		{nil, [8]int{20, 10}},
		{[]api.Frame{maxData(35)}, [8]int{0, 5}},
		{[]api.Frame{maxStream(0, 40)}, [8]int{}},
		{[]api.Frame{maxData(30), maxStream(0, 10)}, [8]int{}},
		{[]api.Frame{maxData(36)}, [8]int{1}},
		{[]api.Frame{maxData(80)}, [8]int{19, 5, 20}},
		{[]api.Frame{maxStream(2, 22)}, [8]int{}},
		{[]api.Frame{maxStream(1, 30), maxStream(1, 25), maxData(0)}, [8]int{}},
		{[]api.Frame{maxData(83)}, [8]int{0, 3}},
		{[]api.Frame{maxData(most), maxStream(0, most)}, [8]int{60, 7, 2}},
		{[]api.Frame{maxStream(3, most), maxStream(2, most), maxStream(1, most)}, [8]int{0, 70, 78}},
		{[]api.Frame{maxData(most)}, [8]int{}},
	} {
		if step.come != nil {
			come(t, c, uint64(i), step.come...)
		}
		l := sent(t, c)
		if got := lengths(l); got != step.sent {
			t.Fatalf("P11: row %d: %v bytes are sent, want %v", i, got, step.sent)
		}
		for _, p := range l {
			come(t, c, 100+p.Number, ack(one(p.Number)))
		}
	}
}

// A grant that lies below the one that both sides begin with takes nothing back.
func TestP11GrantsBelowTheFirst(t *testing.T) {
	c := newSide(t, small)
	come(t, c, 0, maxData(1), maxStream(0, 1), maxData(0), maxStream(1, 0))
	send(t, c, 0, strings.Repeat("x", 100))
	send(t, c, 1, strings.Repeat("x", 100))
	if n := lengths(sent(t, c)); n != [8]int{20, 10} {
		t.Errorf("P11: %v bytes are sent", n)
	}
}

func TestP11GrantsThatAreTold(t *testing.T) {
	c := newSide(t, small)
	come(t, c, 0, data(0, 0, strings.Repeat("x", 12), false), data(3, 0, strings.Repeat("x", 18), false))
	if l := sent(t, c); len(l) != 1 || len(l[0].Frames) != 1 {
		t.Errorf("P11: nothing was read, and %+v", l)
	}
	for i, step := range []struct {
		k, most int
		limit   uint64
		all     uint64
	}{
		{0, 5, 25, 35},
		{3, 1, 21, 36},
		{0, 1, 26, 37},
		{3, 99, 38, 54},
		{0, 99, 32, 60},
	} {
		c.Read(step.k, step.most)
		l := sent(t, c)
		if got, want := frames(l, api.MaxStream), []api.Frame{maxStream(step.k, step.limit)}; !reflect.DeepEqual(got, want) {
			t.Errorf("P11: row %d: %+v, want %+v", i, got, want)
		}
		if got, want := frames(l, api.MaxData), []api.Frame{maxData(step.all)}; !reflect.DeepEqual(got, want) {
			t.Errorf("P11: row %d: %+v, want %+v", i, got, want)
		}
		if l := c.Packets(); l != nil {
			t.Errorf("P11: row %d: nothing was read since then, and %x", i, l)
		}
	}
}

// Grants stand behind answers of all lengths: whatever has no room in one packet is told in the next.
func TestP11GrantsThatTakeMoreThanAPacket(t *testing.T) {
	for shift := range 40 {
		c := newSide(t, api.Config{MTU: 64, Window: 100, Total: 800})
		for k := range 8 {
			come(t, c, uint64(k)<<shift<<1, data(k, 0, strings.Repeat("x", 70), false))
			c.Read(k, 60+k)
		}
		var l []api.Packet
		for _, b := range c.Packets() {
			if len(b) > 64 {
				t.Errorf("P10: a packet of %d bytes", len(b))
			}
			l = append(l, decoded(t, b))
		}
		if got := frames(l, api.MaxStream); len(got) != 8 || got[7].Limit != 160+uint64(got[7].Stream) {
			t.Errorf("P11: %+v", got)
		}
		if got, want := frames(l, api.MaxData), []api.Frame{maxData(800 + 508)}; !reflect.DeepEqual(got, want) {
			t.Errorf("P11: %+v, want %+v", got, want)
		}
	}
}

func TestP11EveryPacketIsAnswered(t *testing.T) {
	for i, f := range []api.Frame{
		{Kind: api.Ping},
		data(0, 0, "", false),
		data(0, 0, "a", true),
		maxData(5),
		maxStream(3, 5),
	} {
		c := newSide(t, small)
		come(t, c, 70, f)
		want := []api.Frame{ack(one(70))}
		if got := frames(sent(t, c), api.Ack); !reflect.DeepEqual(got, want) {
			t.Errorf("P11: row %d: the answer is %+v, want %+v", i, got, want)
		}
		if l := c.Packets(); l != nil {
			t.Errorf("P11: row %d: one answer more: %x", i, l)
		}
	}
}

func TestP11AcksAloneAreNotAnswered(t *testing.T) {
	c := newSide(t, small)
	send(t, c, 0, "x")
	c.Packets()
	come(t, c, 0, ack(one(0)), ack(one(0)))
	if l := c.Packets(); l != nil {
		t.Errorf("P11: an Ack is answered: %x", l)
	}
	come(t, c, 1, ack(one(0)), api.Frame{Kind: api.Ping})
	if l := frames(sent(t, c), api.Ack); len(l) != 1 || l[0].Ranges[0].Hi != 1 {
		t.Errorf("P11: the answer is %+v", l)
	}
}

// named: all numbers that Acks name.
func named(l []api.Packet) []uint64 {
	var names []uint64
	for _, f := range frames(l, api.Ack) {
		for _, r := range f.Ranges {
			for n := r.Lo; n <= r.Hi && len(names) < 1000; n++ {
				names = append(names, n)
			}
		}
	}
	slices.Sort(names)
	return slices.Compact(names)
}

func TestP11AllPacketsThatCameSince(t *testing.T) {
	c := newSide(t, small)
	came := []uint64{3, 4, 5, 9, 1, 20, 17, 18, 30, 40}
	for _, n := range came {
		come(t, c, n, api.Frame{Kind: api.Ping})
	}
	slices.Sort(came)
	if got := named(sent(t, c)); !slices.Equal(got, came) {
		t.Errorf("P11: %v are answered, %v came", got, came)
	}
	come(t, c, 2, api.Frame{Kind: api.Ping})
	got := named(sent(t, c))
	if !slices.Contains(got, 2) {
		t.Errorf("P11: %v are answered, 2 came", got)
	}
	for _, n := range got {
		if n != 2 && !slices.Contains(came, n) {
			t.Errorf("P11: %d is answered, and did not come", n)
		}
	}
}

func TestP11AnswersThatTakeMoreThanAPacket(t *testing.T) {
	for _, mtu := range []int{64, 70, 80, 100, 150} {
		c := newSide(t, api.Config{MTU: mtu, Window: 16, Total: 16})
		var came []uint64
		for n := range uint64(8) {
			came = append(came, n<<59)
			come(t, c, n<<59, api.Frame{Kind: api.Ping})
		}
		send(t, c, 0, "abc")
		var l []api.Packet
		for _, b := range c.Packets() {
			if len(b) > mtu {
				t.Errorf("P10: MTU %d: a packet of %d bytes", mtu, len(b))
			}
			l = append(l, decoded(t, b))
		}
		if got := named(l); !slices.Equal(got, came) {
			t.Errorf("P11: MTU %d: %v are answered, %v came", mtu, got, came)
		}
		if lengths(l)[0] != 3 {
			t.Errorf("P10: MTU %d: no bytes behind the answers", mtu)
		}
	}
}

func TestP11BelowTheFloorNothingIsNamed(t *testing.T) {
	c := newSide(t, small)
	for n := range uint64(10) {
		come(t, c, 10*n, api.Frame{Kind: api.Ping})
	}
	if got, want := named(sent(t, c)), []uint64{20, 30, 40, 50, 60, 70, 80, 90}; !slices.Equal(got, want) {
		t.Errorf("P11: %v are answered, want %v", got, want)
	}
	come(t, c, 15, data(0, 0, "abc", false)) // the lowest of nine ranges: it goes at once
	reads(t, c, 0, 9, "abc", api.Open)
	if got := named(sent(t, c)); slices.Contains(got, 15) || slices.Contains(got, 10) {
		t.Errorf("P11: %v are answered", got)
	}
}

func TestP11WindowAndTotalFromTheirGreatestToTheirLeast(t *testing.T) {
	for _, window := range []int{16, 17, 63, 64, 65, 4095, 4096} {
		for _, total := range []int{16, 17, 100, 4096} {
			a := newSide(t, api.Config{MTU: 400, Window: window, Total: total})
			b := newSide(t, api.Config{MTU: 400, Window: window, Total: total})
			left := total
			var want [8]int
			for k := range 3 {
				send(t, a, k, strings.Repeat("x", 2048))
				want[k] = min(2048, window, left)
				left -= want[k]
			}
			var got [8]int
			for range 3 {
				for k, n := range lengths(carry(t, a, b)) {
					got[k] += n
				}
				carry(t, b, a)
			}
			if got != want {
				t.Errorf("P11: Window %d, Total %d: %v bytes are sent, want %v", window, total, got, want)
			}
		}
	}
}

func TestP10ASideThatAnErrorHasClosed(t *testing.T) {
	c := newSide(t, small)
	send(t, c, 0, strings.Repeat("x", 100))
	first := sent(t, c)
	if err := c.Receive(encoded(t, packet(0, data(0, 0, "abc", true), data(0, 3, "d", false)))); err != api.ErrFinal {
		t.Fatalf("P13: Receive = %v", err)
	}
	want := []api.Packet{packet(uint64(len(first)), api.Frame{Kind: api.Close, Limit: 10})}
	if got := sent(t, c); !reflect.DeepEqual(got, want) {
		t.Errorf("P10, P21: %+v, want %+v", got, want)
	}
	if l := c.Packets(); l != nil {
		t.Errorf("P10, P21: %x", l)
	}
}

func TestP10ManyTicksTurnNothing(t *testing.T) {
	c := newSide(t, small)
	for range 5 {
		c.Tick()
	}
	if l := c.Packets(); l != nil {
		t.Errorf("P10: %x", l)
	}
	come(t, c, math.MaxUint32, api.Frame{Kind: api.Ping})
	for range 5 {
		c.Tick()
	}
	if got := named(sent(t, c)); len(got) != 1 {
		t.Errorf("P11: %v", got)
	}
}
