package mediawire_test

import (
	"fmt"
	"math"
	"reflect"
	"strings"
	"testing"

	"mediawire/api"
	"mediawire/mediawire"
)

// waits: a datagram is handed in, and nothing is wrong with it.
func waits(t testing.TB, c *mediawire.Conn, id uint64, deadline uint64, text string) {
	t.Helper()
	if err := c.Datagram(id, deadline, []byte(text)); err != nil {
		t.Fatalf("P18: Datagram(%d, %d, %d bytes) = %v", id, deadline, len(text), err)
	}
}

// fullQueue: a side with sixteen datagrams that wait: 0 to 15.
func fullQueue(t testing.TB, c api.Config, text string) *mediawire.Conn {
	t.Helper()
	x := newSide(t, c)
	for id := range uint64(16) {
		waits(t, x, id, 9, text)
	}
	return x
}

// handed: what Datagrams hands on now, as a text.
func handed(c *mediawire.Conn) string { return fmt.Sprint(c.Datagrams()) }

func TestP18IdsAndDeadlines(t *testing.T) {
	c := newSide(t, small)
	for i, row := range []struct {
		id, deadline uint64
		err          error
	}{
		{5, most + 1, api.ErrOrder},
		{most + 1, 5, api.ErrOrder},
		{math.MaxUint64, math.MaxUint64, api.ErrOrder},
		{0, 0, nil},
		{0, 0, api.ErrOrder},
		{1, most, nil},
		{1, 7, api.ErrOrder},
		{0, 7, api.ErrOrder},
		{2, 7, nil},
		{70, 1, nil}, // deadlines may fall
		{69, 1, api.ErrOrder},
		{70, 1, api.ErrOrder},
		{71, most + 1, api.ErrOrder},
		{71, 1, nil},
		{most - 1, 3, nil},
		{most + 1, 3, api.ErrOrder},
		{math.MaxUint64, 3, api.ErrOrder},
		{most, 3, nil},
		{most, 3, api.ErrOrder},
		{most + 1, 3, api.ErrOrder},
		{0, 3, api.ErrOrder},
	} {
		if err := c.Datagram(row.id, row.deadline, nil); err != row.err {
			t.Errorf("P18: row %d: Datagram(%d, %d) = %v, want %v", i, row.id, row.deadline, err, row.err)
		}
	}
	var ids []uint64
	for _, f := range frames(sent(t, c), api.Datagram) {
		ids = append(ids, f.Id)
	}
	if want := []uint64{0, 1, 2, 70, 71, most - 1, most}; !reflect.DeepEqual(ids, want) {
		t.Errorf("P18: %v are sent, want %v", ids, want)
	}
	if err := c.Datagram(most, 3, nil); err != api.ErrOrder {
		t.Errorf("P18: an id that was sent: %v", err)
	}
}

func TestP18GreatestDatagram(t *testing.T) {
	for _, mtu := range []int{64, 65, 103, 104, 105, 200, 399, 400} {
		c := newSide(t, api.Config{MTU: mtu, Window: 16, Total: 16})
		text := strings.Repeat("x", mtu-40)
		if err := c.Datagram(most, most, []byte(text+"x")); err != api.ErrBig {
			t.Errorf("P18: MTU %d: a datagram of %d bytes: %v", mtu, mtu-39, err)
		}
		if err := c.Datagram(most, most, make([]byte, 5000)); err != api.ErrBig {
			t.Errorf("P18: MTU %d: a datagram of 5000 bytes: %v", mtu, err)
		}
		waits(t, c, most, most, text)
		l := c.Packets()
		if len(l) != 1 || len(l[0]) > mtu {
			t.Fatalf("P10, P18: MTU %d: %x", mtu, l)
		}
		if got, want := decoded(t, l[0]), packet(0, datagram(most, most, text)); !reflect.DeepEqual(got, want) {
			t.Errorf("P18: MTU %d: %+v, want %+v", mtu, got, want)
		}
	}
}

func TestP18SixteenWait(t *testing.T) {
	c := fullQueue(t, small, "d")
	for range 2 {
		if err := c.Datagram(16, 9, nil); err != api.ErrFull {
			t.Errorf("P18: the seventeenth: %v", err)
		}
	}
	if n := len(frames(sent(t, c), api.Datagram)); n != 16 {
		t.Errorf("P18: %d are sent", n)
	}
	for id := range uint64(16) { // none waits any more; what was refused is not ahead
		waits(t, c, 16+id, 0, "")
	}
	if err := c.Datagram(32, 9, nil); err != api.ErrFull {
		t.Errorf("P18: the seventeenth: %v", err)
	}
	c.Tick() // the deadlines of all are below it
	waits(t, c, 32, 9, "late")
	if got, want := frames(sent(t, c), api.Datagram), []api.Frame{datagram(32, 9, "late")}; !reflect.DeepEqual(got, want) {
		t.Errorf("P18: %+v, want %+v", got, want)
	}
}

func TestP18OrderOfErrors(t *testing.T) {
	big := make([]byte, 25)
	closed := closedSide(t)
	for i, err := range []error{closed.Datagram(most+1, most+1, big), closed.Datagram(0, 0, nil)} {
		if err != api.ErrClosed {
			t.Errorf("P18: row %d: a side that is closed: %v", i, err)
		}
	}
	c := fullQueue(t, small, "d")
	for i, row := range []struct {
		id, deadline uint64
		text         []byte
		err          error
	}{
		{most + 1, 9, big, api.ErrOrder},
		{16, most + 1, big, api.ErrOrder},
		{15, 9, big, api.ErrOrder},
		{15, 9, nil, api.ErrOrder},
		{16, 9, big, api.ErrBig},
		{16, 9, big[1:], api.ErrFull},
		{16, 0, nil, api.ErrFull},
	} {
		if err := c.Datagram(row.id, row.deadline, row.text); err != row.err {
			t.Errorf("P18: row %d: %v, want %v", i, err, row.err)
		}
	}
	c = newSide(t, small)
	waits(t, c, 3, 9, "a")
	if err := c.Datagram(3, 9, big); err != api.ErrOrder {
		t.Errorf("P18: one too big, out of order: %v", err)
	}
}

func TestP18Deadlines(t *testing.T) {
	for _, row := range []struct {
		now, deadline uint64 // the tick at which it is handed in
		later         int    // so many ticks pass until Packets is called
		sent          bool
	}{
		{0, 0, 0, true},
		{0, 0, 1, false},
		{0, 5, 5, true},
		{0, 5, 6, false},
		{3, 3, 0, true},
		{3, 2, 0, false},
		{3, 0, 0, false},
		{3, 4, 1, true},
		{3, 4, 2, false},
		{3, most, 100, true},
	} {
		c := newSide(t, small)
		ticks(c, int(row.now))
		waits(t, c, 7, row.deadline, "d")
		ticks(c, row.later)
		want := []api.Packet{packet(0, datagram(7, row.deadline, "d"))}
		if !row.sent {
			want = nil
		}
		if got := sent(t, c); !reflect.DeepEqual(got, want) {
			t.Errorf("P18: %+v: %+v", row, got)
		}
		if err := c.Datagram(7, 999, nil); err != api.ErrOrder {
			t.Errorf("P18: %+v: its id once more: %v", row, err)
		}
	}
}

// Those whose deadline has passed already take no room among the sixteen.
func TestP18LateDatagramsDoNotWait(t *testing.T) {
	c := newSide(t, small)
	ticks(c, 3)
	for id := range uint64(40) {
		waits(t, c, id, 2, "late")
	}
	for id := range uint64(15) {
		waits(t, c, 40+id, 3, "d")
	}
	waits(t, c, 60, 4, "e")
	if err := c.Datagram(61, 9, nil); err != api.ErrFull {
		t.Errorf("P18: the seventeenth: %v", err)
	}
	c.Tick()
	sends(t, c, packet(0, datagram(60, 4, "e")))
}

func TestP18OnceAndInOrder(t *testing.T) {
	c := newSide(t, wide)
	waits(t, c, 3, 9, "abc")
	waits(t, c, 8, 2, "")
	waits(t, c, 9, 1, "de")
	sends(t, c, packet(0, datagram(3, 9, "abc"), datagram(8, 2, ""), datagram(9, 1, "de")))
	sends(t, c)
	waits(t, c, 10, 5, "f")
	sends(t, c, packet(1, datagram(10, 5, "f")))
	for range 20 {
		c.Tick()
		sends(t, c)
	}
}

// Datagrams go once, whatever becomes of them; what else a lost packet held is sent again.
func TestP18LostDatagramsAreNotSentAgain(t *testing.T) {
	c := newSide(t, wide)
	waits(t, c, 3, 99, "abc")
	send(t, c, 1, "xyz")
	sends(t, c, packet(0, datagram(3, 99, "abc"), data(1, 0, "xyz", false)))
	ticks(c, 6)
	sends(t, c, packet(1, data(1, 0, "xyz", false)))
	waits(t, c, 4, 99, "d")
	sends(t, c, packet(2, datagram(4, 99, "d")))
	for n := range uint64(3) {
		send(t, c, 2, "z")
		sends(t, c, packet(3+n, data(2, n, "z", false)))
	}
	come(t, c, 0, ack(api.Range{Lo: 3, Hi: 5}, one(1)))
	sends(t, c)
	ticks(c, 10)
	sends(t, c)
}

// A packet of datagrams alone is on its way like all others: it is answered, and there are twelve at the most.
func TestP18PacketsOfDatagramsAreOnTheirWay(t *testing.T) {
	for _, freed := range []func(c *mediawire.Conn){
		func(c *mediawire.Conn) { come(t, c, 0, ack(api.Range{Lo: 0, Hi: 11})) },
		func(c *mediawire.Conn) { ticks(c, 6) },
	} {
		c := newSide(t, api.Config{MTU: 64, Window: 4096, Total: 4096})
		big := strings.Repeat("x", 24)
		for id := range uint64(16) {
			waits(t, c, 1<<20+id, 1<<20, big)
		}
		send(t, c, 0, "stream")
		l := sent(t, c)
		if len(l) != 12 || len(frames(l, api.Datagram)) != 12 || frames(l, api.Data) != nil {
			t.Fatalf("P18: %+v", l)
		}
		for i, f := range frames(l, api.Datagram) {
			if f.Id != 1<<20+uint64(i) {
				t.Errorf("P18: %d is sent, %d is next", f.Id, 1<<20+i)
			}
		}
		sends(t, c)
		freed(c)
		l = sent(t, c)
		if n := len(frames(l, api.Datagram)); n != 4 || lengths(l)[0] != 6 {
			t.Errorf("P18: %d datagrams follow: %+v", n, l)
		}
		if last := l[len(l)-1].Frames; last[len(last)-1].Kind != api.Data {
			t.Errorf("P18: bytes go ahead of datagrams: %+v", l)
		}
	}
}

func TestP18TwelveOnTheirWay(t *testing.T) {
	c := crowded(t)
	waits(t, c, 1, 9, "wait")
	waits(t, c, 2, 2, "soon")
	sends(t, c)
	come(t, c, 0, api.Frame{Kind: api.Ping})
	sends(t, c, packet(12, ack(one(0)))) // what has Acks alone has room, a datagram has none
	ticks(c, 3)
	come(t, c, 1, ack(one(1)))
	l := sent(t, c)
	if len(l) != 1 || len(l[0].Frames) != 2 || !reflect.DeepEqual(l[0].Frames[0], datagram(1, 9, "wait")) || l[0].Frames[1].Kind != api.Data {
		t.Errorf("P18: one came, and %+v follows", l)
	}
	sends(t, c)
}

// While a datagram waits no bytes go, even if it is never sent; then they do.
func TestP18NoBytesWhileOneWaits(t *testing.T) {
	c := newSide(t, api.Config{MTU: 64, Window: 4096, Total: 4096})
	big := strings.Repeat("x", 24)
	for id := range uint64(16) {
		waits(t, c, 1<<30+id, 1, big)
	}
	send(t, c, 0, "abc")
	finish(t, c, 0)
	if l := sent(t, c); len(l) != 12 || frames(l, api.Data) != nil {
		t.Fatalf("P18: %+v", l)
	}
	c.Tick()
	come(t, c, 0, ack(one(0)))
	if l := sent(t, c); len(l) != 1 || len(frames(l, api.Datagram)) != 1 || frames(l, api.Data) != nil {
		t.Errorf("P18: %+v", l)
	}
	c.Tick() // three are too late now
	come(t, c, 1, ack(one(1)))
	sends(t, c, packet(13, data(0, 0, "abc", true)))
}

// The last packet that may go is the datagrams', whatever grants there are to tell.
func TestP18GrantsLeaveRoomForADatagram(t *testing.T) {
	for number := range uint64(9) {
		c := newSide(t, api.Config{MTU: 64, Window: 1000, Total: 4096})
		for k := range 8 {
			come(t, c, uint64(k)<<number, data(k, 0, strings.Repeat("y", 50), false))
		}
		send(t, c, 0, "first")
		sends11(t, c)
		for k := range 8 {
			c.Read(k, 50)
			if err := c.Reset(k, 0); err != nil {
				t.Fatalf("P20: %v", err)
			}
		}
		waits(t, c, most, most, strings.Repeat("x", 24))
		l := sent(t, c)
		if got := frames(l, api.Datagram); len(got) != 1 {
			t.Errorf("P18: eleven packets were on their way, one datagram waits, and %+v", l)
		}
		come(t, c, 1<<40, ack(api.Range{Lo: 0, Hi: l[len(l)-1].Number}))
		l = append(l, sent(t, c)...)
		if len(frames(l, api.MaxStream)) != 8 || len(frames(l, api.ResetAt)) != 8 || len(frames(l, api.MaxData)) != 1 {
			t.Errorf("P18: behind the datagram the grants are not told: %+v", l)
		}
	}
}

// sends11: eleven packets go on their way, a byte of stream 0 in each.
func sends11(t testing.TB, c *mediawire.Conn) {
	t.Helper()
	for range 11 {
		send(t, c, 0, "x")
		if l := sent(t, c); len(l) == 0 || frames(l, api.Data) == nil {
			t.Fatalf("P10: %+v", l)
		}
	}
}

// Answers that fill a packet go ahead of a datagram; it follows in one of its own.
func TestP18AnswersAheadOfADatagram(t *testing.T) {
	c := newSide(t, api.Config{MTU: 64, Window: 100, Total: 100})
	sends11(t, c)
	var came []uint64
	for n := range uint64(8) {
		came = append(came, n<<59)
		come(t, c, n<<59, api.Frame{Kind: api.Ping})
	}
	waits(t, c, 7, 7, strings.Repeat("x", 24))
	l := sent(t, c)
	if got := named(l); !reflect.DeepEqual(got, came) {
		t.Errorf("P11: %v are answered, %v came", got, came)
	}
	if got := frames(l, api.Datagram); len(got) != 1 {
		t.Errorf("P18: %+v", l)
	}
}

func TestP18OrderOfFramesInAPacket(t *testing.T) {
	c := newSide(t, wide)
	come(t, c, 0, data(4, 0, "abc", false))
	reads(t, c, 4, 9, "abc", api.Open)
	send(t, c, 5, "given")
	if err := c.Reset(5, 2); err != nil {
		t.Fatalf("P20: %v", err)
	}
	send(t, c, 0, "xyz")
	waits(t, c, 1, 1, "one")
	waits(t, c, 2, 1, "two")
	l := sent(t, c)
	if len(l) != 1 {
		t.Fatalf("P10: %+v", l)
	}
	kinds := map[int]int{}
	last := 1
	for _, f := range l[0].Frames {
		if order(f.Kind) < last {
			t.Errorf("P10: the order of %+v", l[0])
		}
		last = order(f.Kind)
		kinds[f.Kind]++
	}
	want := map[int]int{api.Ack: 1, api.MaxData: 1, api.MaxStream: 1, api.ResetAt: 1, api.Datagram: 2, api.Data: 2}
	if !reflect.DeepEqual(kinds, want) {
		t.Errorf("P10: %+v", l[0])
	}
}

func TestP18StreamsOfSmallerNumbersGoAhead(t *testing.T) {
	c := newSide(t, api.Config{MTU: 64, Window: 100, Total: 250})
	for _, k := range []int{5, 2, 7, 0} {
		send(t, c, k, strings.Repeat("x", 120))
	}
	var l []api.Packet
	for n := range uint64(5) {
		l = append(l, sent(t, c)...)
		come(t, c, n, ack(api.Range{Lo: 0, Hi: l[len(l)-1].Number}))
	}
	last := 0
	for _, f := range frames(l, api.Data) {
		if f.Stream < last {
			t.Errorf("P18: stream %d behind %d", f.Stream, last)
		}
		last = f.Stream
	}
	if got := lengths(l); got != [8]int{0: 100, 2: 100, 5: 50} {
		t.Errorf("P18: %v bytes are sent", got)
	}
	come(t, c, 9, maxData(280), maxStream(7, 4096), maxStream(2, 110))
	if got := lengths(sent(t, c)); got != [8]int{2: 10, 5: 20} {
		t.Errorf("P18: %v bytes are sent", got)
	}
}

// Room in a packet that is too little for a smaller stream is not filled with a greater one.
func TestP18NoStreamIsPassedOver(t *testing.T) {
	for n := range 60 {
		c := newSide(t, api.Config{MTU: 64, Window: 4096, Total: 4096})
		send(t, c, 3, strings.Repeat("a", 100))
		c.Packets()
		come(t, c, 0, ack(api.Range{Lo: 0, Hi: 1}))
		send(t, c, 2, strings.Repeat("b", n))
		send(t, c, 3, "cdefghij")
		send(t, c, 4, "k")
		last := 0
		for _, f := range frames(sent(t, c), api.Data) {
			if f.Stream < last {
				t.Errorf("P18: %d bytes: stream %d behind %d", n, f.Stream, last)
			}
			last = f.Stream
		}
	}
}

func TestP19Window(t *testing.T) {
	c := newSide(t, small)
	for i, row := range []struct {
		id   uint64
		want string
	}{
		{50, "[{50 x}]"},
		{50, "[]"},
		{19, "[{19 x}]"}, // 31 below
		{19, "[]"},
		{18, "[]"}, // 32 below
		{17, "[]"},
		{0, "[]"},
		{49, "[{49 x}]"},
		{60, "[{60 x}]"},
		{19, "[]"},
		{29, "[{29 x}]"},
		{28, "[]"},
		{50, "[]"},
		{51, "[{51 x}]"},
		{most, "[{4611686018427387903 x}]"},
		{60, "[]"},
		{most - 31, "[{4611686018427387872 x}]"},
		{most - 32, "[]"},
		{most - 33, "[]"},
		{most, "[]"},
	} {
		come(t, c, uint64(i), datagram(row.id, 9, "x"))
		if got := handed(c); got != row.want {
			t.Errorf("P19: row %d: %s, want %s", i, got, row.want)
		}
	}
}

// At first nothing is too far below: ids below 32 come in any order.
func TestP19FirstIds(t *testing.T) {
	for first := range uint64(40) {
		c := newSide(t, small)
		come(t, c, 0, datagram(first, 9, "x"))
		want := fmt.Sprintf("[{%d x}", first)
		for id := range uint64(40) {
			come(t, c, 1+id, datagram(id, 9, "y"))
		}
		greatest := first
		for id := range uint64(40) {
			if id != first && id+32 > greatest {
				greatest = max(greatest, id)
				want += fmt.Sprintf(" {%d y}", id)
			}
		}
		if got := handed(c); got != want+"]" {
			t.Errorf("P19: first %d: %s, want %s", first, got, want)
		}
	}
}

// Whether they come in one packet or in many, and whether Datagrams is called between them, is all one.
func TestP19Twice(t *testing.T) {
	came := []api.Frame{datagram(40, 9, "a"), datagram(40, 9, "b"), datagram(8, 9, "far"), datagram(9, 9, "c"), datagram(41, 9, "d"), datagram(9, 9, "e"), datagram(10, 9, "f"), datagram(41, 9, "g")}
	const want = "[{40 a} {9 c} {41 d} {10 f}]"
	c := newSide(t, small)
	come(t, c, 0, came...)
	if got := handed(c); got != want {
		t.Errorf("P19: in one packet: %s, want %s", got, want)
	}
	c = newSide(t, small)
	var l []api.Message
	for i, f := range came {
		come(t, c, uint64(i), f)
		if i%3 == 1 {
			l = append(l, c.Datagrams()...)
		}
	}
	if got := fmt.Sprint(append(l, c.Datagrams()...)); got != want {
		t.Errorf("P19: in many packets: %s, want %s", got, want)
	}
	for i, f := range came {
		come(t, c, 100+uint64(i), f)
	}
	come(t, c, 0, datagram(42, 9, "in a packet that came"))
	if l := c.Datagrams(); l != nil {
		t.Errorf("P19: once more: %v", l)
	}
}

func TestP19Late(t *testing.T) {
	c := newSide(t, small)
	ticks(c, 5)
	come(t, c, 0, datagram(100, 4, "late"), datagram(50, 5, "in time"), datagram(51, 0, "late"), datagram(52, most, "early"))
	ticks(c, 100) // the tick at which it came counts, not that of the call
	if got := handed(c); got != "[{50 in time} {52 early}]" {
		t.Errorf("P19: %s", got)
	}
	// what was late was not handed on: it may come again, and makes no other too far below
	come(t, c, 1, datagram(100, 104, "late"), datagram(51, 105, "again"), datagram(21, 105, "near"))
	if got := handed(c); got != "[{51 again} {21 near}]" {
		t.Errorf("P19: %s", got)
	}
}

func TestP19Order(t *testing.T) {
	c := newSide(t, small)
	for i, id := range []uint64{7, 3, 9, 1, 30, 2} {
		come(t, c, 100-uint64(i), datagram(id, uint64(9-i), string(rune('a'+i))))
	}
	if got := handed(c); got != "[{7 a} {3 b} {9 c} {1 d} {30 e} {2 f}]" {
		t.Errorf("P19: %s", got)
	}
	if l := c.Datagrams(); l != nil {
		t.Errorf("P2, P19: nothing came since then: %#v", l)
	}
}

// Datagrams are answered like all else, even those that are not handed on; and none has a say in streams.
func TestP19Answers(t *testing.T) {
	c := newSide(t, small)
	ticks(c, 3)
	for n, f := range []api.Frame{datagram(5, 9, "x"), datagram(5, 9, "x"), datagram(6, 0, "late"), datagram(7, 9, "")} {
		come(t, c, uint64(n), f)
		sends(t, c, packet(uint64(n), ack(api.Range{Lo: 0, Hi: uint64(n)})))
	}
	come(t, c, 9, datagram(8, 9, strings.Repeat("x", 300))) // however long it is
	if got := handed(c); got != "[{5 x} {7 } {8 "+strings.Repeat("x", 300)+"}]" {
		t.Errorf("P19: %s", got)
	}
	reads(t, c, 0, 9, "", api.Open)
}

func TestP2DatagramsAreTheCallers(t *testing.T) {
	c := newSide(t, wide)
	b := []byte("hello")
	if err := c.Datagram(1, 9, b[:4]); err != nil || string(b) != "hello" {
		t.Fatalf("P2: %v, %q", err, b)
	}
	copy(b, "!!!!!")
	sends(t, c, packet(0, datagram(1, 9, "hell")))
	p := encoded(t, packet(0, datagram(1, 9, "a"), datagram(2, 9, "b"), datagram(3, 9, "c")))
	if err := c.Receive(p); err != nil {
		t.Fatal(err)
	}
	for i := range p {
		p[i] = '!'
	}
	l := c.Datagrams()
	if got := fmt.Sprint(l); got != "[{1 a} {2 b} {3 c}]" {
		t.Errorf("P2: %s", got)
	}
	l[0].Data = "!"
	l = append(l[:1], api.Message{Id: 9}, api.Message{Id: 9}, api.Message{Id: 9})
	come(t, c, 1, datagram(4, 9, "d"))
	if got := handed(c); got != "[{4 d}]" || len(l) != 4 {
		t.Errorf("P2: %s", got)
	}
}

// What is sent in time comes, once, in its order: over a network that is fair, and with streams beside.
func TestP18ToP19Talk(t *testing.T) {
	for i, c := range extremes() {
		x := modelTalk(t, uint64(i), c)
		x.full()
		for range 30 {
			for side := range 2 {
				for range 12 {
					x.message(side, x.tick+50, randomText(x.random, c.MTU-40))
				}
			}
			x.fair(i)
		}
		for range 5 {
			x.fair(i)
		}
		if n := len(x.waits[0]) + len(x.waits[1]); n != 0 {
			t.Errorf("P18, P19: %+v: %d datagrams did not come", c, n)
		}
		x.ends(i)
	}
}
