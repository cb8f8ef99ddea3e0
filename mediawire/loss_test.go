package mediawire_test

import (
	"reflect"
	"strings"
	"testing"

	"mediawire/api"
	"mediawire/mediawire"
)

// ticks: so many pass.
func ticks(c *mediawire.Conn, n int) {
	for range n {
		c.Tick()
	}
}

// sends: the side sends these packets now, and no others.
func sends(t testing.TB, c *mediawire.Conn, want ...api.Packet) {
	t.Helper()
	if got := sent(t, c); !reflect.DeepEqual(got, want) {
		t.Errorf("P16: %+v is sent, want %+v", got, want)
	}
}

// apart: a side that has sent the numbers 0 to n-1, a byte of stream 0 in each.
func apart(t testing.TB, n int) *mediawire.Conn {
	t.Helper()
	c := newSide(t, wide)
	for i := range n {
		send(t, c, 0, string(rune('a'+i)))
		sends(t, c, packet(uint64(i), data(0, uint64(i), string(rune('a'+i)), false)))
	}
	return c
}

func TestP16SixTicks(t *testing.T) {
	for _, asked := range []bool{true, false} { // by Packets in each tick, or at the end alone
		c := apart(t, 1)
		for range 5 {
			c.Tick()
			if asked {
				sends(t, c)
			}
		}
		sends(t, c)
		c.Tick()
		sends(t, c, packet(1, data(0, 0, "a", false)))
		sends(t, c)
		ticks(c, 5)
		sends(t, c)
		ticks(c, 2) // seven: six or more
		sends(t, c, packet(2, data(0, 0, "a", false)))
	}
	c := apart(t, 1)
	ticks(c, 1000)
	sends(t, c, packet(1, data(0, 0, "a", false)))
}

func TestP16EachPacketHasItsTick(t *testing.T) {
	c := newSide(t, wide)
	for i, text := range []string{"a", "b", "c"} {
		send(t, c, i, text)
		sends(t, c, packet(uint64(i), data(i, 0, text, false)))
		ticks(c, 2)
	}
	sends(t, c, packet(3, data(0, 0, "a", false)))
	c.Tick()
	sends(t, c)
	c.Tick()
	sends(t, c, packet(4, data(1, 0, "b", false)))
	come(t, c, 0, ack(one(2)))
	ticks(c, 3)
	sends(t, c)
	c.Tick()
	sends(t, c, packet(5, data(0, 0, "a", false)))
}

// What is written but not sent is not lost, however long it waits.
func TestP16TicksCountFromTheSending(t *testing.T) {
	c := newSide(t, wide)
	send(t, c, 0, "abc")
	ticks(c, 20)
	sends(t, c, packet(0, data(0, 0, "abc", false)))
	ticks(c, 5)
	sends(t, c)
	c.Tick()
	sends(t, c, packet(1, data(0, 0, "abc", false)))
}

func TestP16ThreeNumbersAbove(t *testing.T) {
	for i, row := range []struct {
		named []api.Range
		again []api.Frame
	}{
		{[]api.Range{one(0)}, nil},
		{[]api.Range{one(1)}, nil},
		{[]api.Range{one(2)}, nil},
		{[]api.Range{{Lo: 1, Hi: 2}}, nil},
		{[]api.Range{one(3)}, []api.Frame{data(0, 0, "a", false)}},
		{[]api.Range{{Lo: 1, Hi: 3}}, []api.Frame{data(0, 0, "a", false)}},
		{[]api.Range{one(3), one(0)}, nil},
		{[]api.Range{one(4)}, []api.Frame{data(0, 0, "ab", false)}},
		{[]api.Range{one(4), one(0)}, []api.Frame{data(0, 1, "b", false)}},
		{[]api.Range{one(4), one(1)}, []api.Frame{data(0, 0, "a", false)}},
		{[]api.Range{one(6)}, []api.Frame{data(0, 0, "abcd", false)}},
		{[]api.Range{one(6), one(2)}, []api.Frame{data(0, 0, "ab", false), data(0, 3, "d", false)}},
		{[]api.Range{one(6), one(4), one(0)}, []api.Frame{data(0, 1, "bcd", false)}},
		{[]api.Range{{Lo: 4, Hi: 6}, {Lo: 0, Hi: 2}}, []api.Frame{data(0, 3, "d", false)}},
		{[]api.Range{{Lo: 0, Hi: 6}}, nil},
	} {
		c := apart(t, 7)
		come(t, c, 0, ack(row.named...))
		if got := frames(sent(t, c), api.Data); !reflect.DeepEqual(got, row.again) {
			t.Errorf("P16: row %d: %+v is sent again, want %+v", i, got, row.again)
		}
		sends(t, c)
	}
}

// Of two Acks that come before it is asked what to send, both count.
func TestP16AcksInTwoFrames(t *testing.T) {
	c := apart(t, 7)
	come(t, c, 0, ack(one(6)), ack(one(0)))
	come(t, c, 1, ack(one(2)))
	want := []api.Frame{data(0, 1, "b", false), data(0, 3, "d", false)}
	if got := frames(sent(t, c), api.Data); !reflect.DeepEqual(got, want) {
		t.Errorf("P16: %+v, want %+v", got, want)
	}
}

// A number far above that an Ack named once makes nothing lost that was sent later; an Ack of lower numbers takes nothing back.
func TestP16AcksThatComeLate(t *testing.T) {
	c := apart(t, 7)
	come(t, c, 5, ack(api.Range{Lo: 0, Hi: 6}))
	come(t, c, 2, ack(one(0)))
	send(t, c, 1, "x")
	sends(t, c, packet(7, data(1, 0, "x", false)))
	sends(t, c)
	c = apart(t, 7)
	come(t, c, 5, ack(one(5)))
	come(t, c, 2, ack(one(2)))
	want := []api.Frame{data(0, 0, "ab", false)}
	if got := frames(sent(t, c), api.Data); !reflect.DeepEqual(got, want) {
		t.Errorf("P16: %+v, want %+v", got, want)
	}
}

func TestP16AnAckOfAcksCounts(t *testing.T) {
	c := apart(t, 1)
	for n := range uint64(3) {
		come(t, c, n, api.Frame{Kind: api.Ping})
		sends(t, c, packet(n+1, ack(api.Range{Lo: 0, Hi: n})))
	}
	come(t, c, 3, ack(one(2)))
	sends(t, c)
	come(t, c, 4, ack(one(3)))
	sends(t, c, packet(4, data(0, 0, "a", false)))
}

func TestP16AcksAloneAreNeverLost(t *testing.T) {
	c := newSide(t, wide)
	for n := range uint64(5) {
		come(t, c, n, api.Frame{Kind: api.Ping})
		if l := sent(t, c); len(l) != 1 || len(l[0].Frames) != 1 || l[0].Frames[0].Kind != api.Ack {
			t.Fatalf("P11: the answer is %+v", l)
		}
	}
	for range 20 {
		c.Tick()
		sends(t, c)
	}
	come(t, c, 5, ack(one(4)))
	sends(t, c)
	ticks(c, 6)
	sends(t, c)
}

// What a lost packet held beside Acks is sent again; the Acks themselves need not be.
func TestP16AcksBesideBytes(t *testing.T) {
	c := newSide(t, wide)
	come(t, c, 0, api.Frame{Kind: api.Ping})
	send(t, c, 0, "abc")
	sends(t, c, packet(0, ack(one(0)), data(0, 0, "abc", false)))
	ticks(c, 6)
	if got, want := frames(sent(t, c), api.Data), []api.Frame{data(0, 0, "abc", false)}; !reflect.DeepEqual(got, want) {
		t.Errorf("P16: %+v, want %+v", got, want)
	}
	come(t, c, 1, ack(one(1)))
	ticks(c, 6)
	sends(t, c)
}

func TestP16BytesAndEndsAsTheyAreThen(t *testing.T) {
	c := newSide(t, wide)
	send(t, c, 0, "ab")
	sends(t, c, packet(0, data(0, 0, "ab", false)))
	send(t, c, 0, "cd")
	sends(t, c, packet(1, data(0, 2, "cd", false)))
	ticks(c, 6)
	send(t, c, 0, "ef")
	sends(t, c, packet(2, data(0, 0, "abcdef", false)))
	ticks(c, 6)
	finish(t, c, 0)
	sends(t, c, packet(3, data(0, 0, "abcdef", true)))
	ticks(c, 6)
	sends(t, c, packet(4, data(0, 0, "abcdef", true)))
	come(t, c, 0, ack(one(4)))
	ticks(c, 6)
	sends(t, c)
}

func TestP16EndsAlone(t *testing.T) {
	c := newSide(t, wide)
	finish(t, c, 3)
	send(t, c, 5, "abc")
	sends(t, c, packet(0, data(3, 0, "", true), data(5, 0, "abc", false)))
	come(t, c, 0, ack(one(0)))
	finish(t, c, 5)
	sends(t, c, packet(1, data(5, 3, "", true)))
	ticks(c, 6)
	sends(t, c, packet(2, data(5, 3, "", true)))
	ticks(c, 6)
	sends(t, c, packet(3, data(5, 3, "", true)))
	come(t, c, 1, ack(one(3)))
	ticks(c, 6)
	sends(t, c)
}

// The last bytes are lost, the end came: they are sent with it, for they are the last; the end alone is not.
func TestP16LastBytesBehindTheEnd(t *testing.T) {
	c := newSide(t, wide)
	send(t, c, 0, "abc")
	sends(t, c, packet(0, data(0, 0, "abc", false)))
	c.Tick()
	finish(t, c, 0)
	sends(t, c, packet(1, data(0, 3, "", true)))
	come(t, c, 0, ack(one(1)))
	ticks(c, 5)
	sends(t, c, packet(2, data(0, 0, "abc", true)))
	come(t, c, 1, ack(one(2)))
	ticks(c, 20)
	sends(t, c)
}

// The end is on its way behind the last bytes, which are sent again with it: one of the two is enough.
func TestP16EndOnItsWayTwice(t *testing.T) {
	c := newSide(t, wide)
	send(t, c, 0, "abc")
	c.Packets()
	ticks(c, 5)
	finish(t, c, 0)
	sends(t, c, packet(1, data(0, 3, "", true)))
	c.Tick()
	sends(t, c, packet(2, data(0, 0, "abc", true)))
	ticks(c, 5)
	sends(t, c)
	c.Tick()
	sends(t, c, packet(3, data(0, 0, "abc", true)))
}

func TestP16PartsThatCameAreNotSentAgain(t *testing.T) {
	c := newSide(t, api.Config{MTU: 64, Window: 4096, Total: 4096})
	send(t, c, 0, strings.Repeat("0123456789", 30))
	finish(t, c, 0)
	l := sent(t, c)
	if len(l) < 5 {
		t.Fatalf("P10: %+v", l)
	}
	come(t, c, 0, ack(one(2), one(0)))
	ticks(c, 6)
	again := frames(sent(t, c), api.Data)
	for _, f := range again {
		for _, p := range []int{0, 2} {
			came := l[p].Frames[0]
			if f.Offset < came.Offset+uint64(len(came.Data)) && came.Offset < f.Offset+uint64(len(f.Data)) {
				t.Errorf("P16: %+v is sent again, and %+v came", f, came)
			}
		}
	}
	n := len(l[0].Frames[0].Data) + len(l[2].Frames[0].Data)
	for _, f := range again {
		n += len(f.Data)
	}
	if n != 300 || !again[len(again)-1].Fin {
		t.Errorf("P16: %d bytes of 300 were sent, or came", n)
	}
}

// Bytes that are sent again need no new grant, and leave those that were granted to others.
func TestP16GrantsAreNotUsedUpTwice(t *testing.T) {
	c := newSide(t, small)
	for k := range 3 {
		send(t, c, k, strings.Repeat("x", 100))
	}
	for range 4 {
		if n := lengths(sent(t, c)); n != [8]int{20, 10} {
			t.Fatalf("P11, P16: %v bytes are sent", n)
		}
		ticks(c, 6)
	}
	come(t, c, 0, maxData(35), maxStream(0, 25))
	if n := lengths(sent(t, c)); n != [8]int{25, 10} {
		t.Errorf("P11, P16: %v bytes are sent", n)
	}
}

// reading: a side to which 20 bytes of stream 0 and 10 of stream 1 came, which were answered.
func reading(t testing.TB) *mediawire.Conn {
	t.Helper()
	c := newSide(t, small)
	come(t, c, 0, data(0, 0, strings.Repeat("x", 20), false), data(1, 0, strings.Repeat("y", 10), false))
	sends(t, c, packet(0, ack(one(0))))
	return c
}

func TestP16GrantsAsTheyAreThen(t *testing.T) {
	c := reading(t)
	reads(t, c, 0, 5, "xxxxx", api.Open)
	sends(t, c, packet(1, maxData(35), maxStream(0, 25)))
	ticks(c, 5)
	sends(t, c)
	c.Tick()
	sends(t, c, packet(2, maxData(35), maxStream(0, 25)))
	ticks(c, 6)
	reads(t, c, 0, 2, "xx", api.Open)
	reads(t, c, 1, 1, "y", api.Open)
	sends(t, c, packet(3, maxData(38), maxStream(0, 27), maxStream(1, 21)))
	come(t, c, 1, ack(one(3)))
	ticks(c, 6)
	sends(t, c)
}

// A grant that was lost is of no use any more, if a higher one came or is on its way.
func TestP16GrantsThatHigherOnesFollow(t *testing.T) {
	c := reading(t)
	reads(t, c, 0, 5, "xxxxx", api.Open)
	sends(t, c, packet(1, maxData(35), maxStream(0, 25)))
	c.Tick()
	reads(t, c, 0, 1, "x", api.Open)
	sends(t, c, packet(2, maxData(36), maxStream(0, 26)))
	ticks(c, 4)
	come(t, c, 1, ack(one(2)))
	ticks(c, 10)
	sends(t, c)
	reads(t, c, 1, 1, "y", api.Open)
	sends(t, c, packet(3, maxData(37), maxStream(1, 21)))
	c.Tick()
	reads(t, c, 1, 1, "y", api.Open)
	sends(t, c, packet(4, maxData(38), maxStream(1, 22)))
	ticks(c, 5)
	sends(t, c)
	c.Tick()
	sends(t, c, packet(5, maxData(38), maxStream(1, 22)))
}

// What was granted counts, though it was lost; and a stream that has ended needs no grant.
func TestP16GrantsOfAStreamThatHasEnded(t *testing.T) {
	c := reading(t)
	reads(t, c, 0, 5, "xxxxx", api.Open)
	sends(t, c, packet(1, maxData(35), maxStream(0, 25)))
	ticks(c, 6)
	come(t, c, 1, data(0, 20, "zzzzz", true))
	sends(t, c, packet(2, ack(api.Range{Lo: 0, Hi: 1}), maxData(35)))
	ticks(c, 6)
	sends(t, c, packet(3, maxData(35)))
}

func TestP16AcksOfWhatWasLost(t *testing.T) {
	c := apart(t, 1)
	ticks(c, 6)
	come(t, c, 0, ack(one(0))) // late, but ahead of the sending
	sends(t, c)
	ticks(c, 6)
	sends(t, c)

	c = apart(t, 1)
	ticks(c, 6)
	sends(t, c, packet(1, data(0, 0, "a", false)))
	for n := range uint64(3) { // late, and more than once
		come(t, c, n, ack(one(0)))
		sends(t, c)
	}
	ticks(c, 6)
	sends(t, c) // 1 is lost, but what it held came
	come(t, c, 3, ack(api.Range{Lo: 0, Hi: 1}), ack(one(1)), ack(one(0)))
	ticks(c, 6)
	sends(t, c)
}

func TestP16AcksOfGrantsThatWereLost(t *testing.T) {
	c := reading(t)
	reads(t, c, 0, 5, "xxxxx", api.Open)
	sends(t, c, packet(1, maxData(35), maxStream(0, 25)))
	ticks(c, 6)
	sends(t, c, packet(2, maxData(35), maxStream(0, 25)))
	come(t, c, 1, ack(one(1)))
	ticks(c, 6)
	sends(t, c)
}

// However long nothing is answered, what was lost is sent again and again; then the newest packet alone is on its way.
func TestP16NothingIsAnsweredForLong(t *testing.T) {
	c := apart(t, 1)
	for n := range uint64(300) {
		ticks(c, 6)
		sends(t, c, packet(n+1, data(0, 0, "a", false)))
	}
	come(t, c, 0, ack(api.Range{Lo: 0, Hi: 200}))
	ticks(c, 5)
	sends(t, c)
	come(t, c, 1, ack(api.Range{Lo: 0, Hi: 300}))
	ticks(c, 6)
	sends(t, c)
	if err := c.Receive(encoded(t, packet(2, ack(one(301))))); err != api.ErrAck {
		t.Errorf("P14: Receive = %v", err)
	}
}

func TestP16LostPacketsThatWereRead(t *testing.T) {
	a, b := newSide(t, wide), newSide(t, wide)
	send(t, a, 0, "abc")
	finish(t, a, 0)
	carry(t, a, b)
	reads(t, b, 0, 9, "abc", api.Finished)
	lost := sent(t, b)
	for range 6 {
		a.Tick()
		b.Tick()
	}
	if l := carry(t, a, b); len(frames(l, api.Data)) != 1 {
		t.Errorf("P16: %+v", l)
	}
	reads(t, b, 0, 9, "", api.Finished)
	carry(t, b, a)
	carry(t, a, b)
	for range 20 {
		a.Tick()
		b.Tick()
		sends(t, a)
		sends(t, b)
	}
	for _, p := range lost {
		come(t, a, p.Number, p.Frames...)
	}
	if a.Err() != nil || b.Err() != nil {
		t.Errorf("P16: %v, %v", a.Err(), b.Err())
	}
}

func TestP16NeverMoreThanTwelveOnTheirWay(t *testing.T) {
	c := crowded(t)
	ticks(c, 5)
	sends(t, c)
	c.Tick()
	l := sent(t, c)
	if len(l) != 12 || l[0].Number != 12 || l[0].Frames[0].Offset != 0 {
		t.Fatalf("P16: twelve were lost, %d follow: %+v", len(l), l)
	}
	end := l[11].Frames[0].Offset + uint64(len(l[11].Frames[0].Data))
	come(t, c, 0, ack(api.Range{Lo: 0, Hi: 11}))
	sends(t, c) // those came too; twelve are on their way all the same
	come(t, c, 1, ack(api.Range{Lo: 0, Hi: 11}), ack(api.Range{Lo: 12, Hi: 13}))
	l = sent(t, c)
	if len(l) != 2 || l[0].Frames[0].Offset < end-5 {
		t.Errorf("P16: two came, %d follow: %+v", len(l), l)
	}
	come(t, c, 2, ack(one(25)))
	l = sent(t, c) // 14 to 22 are lost, 23 and 24 on their way
	if len(l) == 0 || len(l) > 10 || lengths(l)[0] == 0 {
		t.Errorf("P16: %d follow: %+v", len(l), l)
	}
}

func TestP16ThreeAboveMakesRoom(t *testing.T) {
	c := crowded(t)
	come(t, c, 0, ack(one(2)))
	if l := sent(t, c); len(l) != 1 || l[0].Frames[0].Offset < 400 {
		t.Errorf("P16: one came, none is lost: %+v", l)
	}
	come(t, c, 1, ack(one(3)))
	l := sent(t, c)
	if len(l) != 2 || l[0].Frames[0].Offset != 0 {
		t.Errorf("P16: one came, one is lost: %+v", l)
	}
	come(t, c, 2, ack(one(5)))
	l = sent(t, c)
	if len(l) != 2 || l[0].Frames[0].Offset == 0 || l[0].Frames[0].Offset > 100 {
		t.Errorf("P16: one came, one is lost: %+v", l)
	}
}

// What is lost waits for room like all else: grants ahead of bytes, smaller streams ahead of greater ones.
func TestP16OrderOfWhatIsSentAgain(t *testing.T) {
	c := newSide(t, api.Config{MTU: 64, Window: 4096, Total: 4096})
	for k := 7; k >= 0; k-- {
		send(t, c, k, strings.Repeat(string(rune('a'+k)), 10))
		if l := sent(t, c); len(l) != 1 {
			t.Fatalf("P10: %+v", l)
		}
	}
	come(t, c, 0, data(4, 0, "abc", false))
	reads(t, c, 4, 2, "ab", api.Open)
	c.Packets()
	ticks(c, 6)
	send(t, c, 0, "new")
	l := sent(t, c)
	var streams []int
	for _, p := range l {
		last := 1
		for _, f := range p.Frames {
			if order(f.Kind) < last {
				t.Errorf("P10: the order of %+v", p)
			}
			last = order(f.Kind)
			if f.Kind == api.Data {
				streams = append(streams, f.Stream)
			}
		}
	}
	for i := 1; i < len(streams); i++ {
		if streams[i] < streams[i-1] {
			t.Errorf("P18: streams are sent in the order %v", streams)
		}
	}
	if n := lengths(l); n != [8]int{13, 10, 10, 10, 10, 10, 10, 10} || len(frames(l, api.MaxStream)) != 1 || len(frames(l, api.MaxData)) != 1 {
		t.Errorf("P16: %+v", l)
	}
}

// Numbers of packets take more bytes with time, and so what was lost has less room.
func TestP16GreatestPacketOfWhatIsSentAgain(t *testing.T) {
	for _, mtu := range []int{64, 65, 66, 127, 130, 400} {
		c := newSide(t, api.Config{MTU: mtu, Window: 4096, Total: 4096})
		send(t, c, 1, strings.Repeat("x", 2048))
		for range 1500 {
			l := c.Packets()
			if len(l) == 0 || len(l) > 12 {
				t.Fatalf("P16: %d packets", len(l))
			}
			for _, b := range l {
				if len(b) > mtu {
					t.Fatalf("P10: MTU %d: a packet of %d bytes", mtu, len(b))
				}
			}
			ticks(c, 6)
		}
	}
}

// A side that is closed sends nothing again.
func TestP16ASideThatIsClosed(t *testing.T) {
	c := apart(t, 3)
	if err := c.Receive(encoded(t, packet(0, ack(one(3))))); err != api.ErrAck {
		t.Fatalf("P14: Receive = %v", err)
	}
	ticks(c, 6)
	sends(t, c, packet(3, api.Frame{Kind: api.Close, Limit: 11}))
	ticks(c, 20)
	sends(t, c)
}
