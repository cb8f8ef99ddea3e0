package mediawire_test

import (
	"bytes"
	"errors"
	"math"
	"reflect"
	"strings"
	"testing"

	"mediawire/api"
	"mediawire/mediawire"
)

func TestP12ASideThatIsClosed(t *testing.T) {
	c := closedSide(t)
	sound := encoded(t, packet(3, api.Frame{Kind: api.Ping}))
	for i, b := range [][]byte{sound, nil, []byte("abcdef"), sealed(t, "00ff")} {
		if err := c.Receive(b); err != api.ErrClosed {
			t.Errorf("P12: row %d: Receive = %v", i, err)
		}
	}
	if b, state, err := c.Read(0, 9); b != nil || state != 0 || err != api.ErrClosed {
		t.Errorf("P15: Read = %q, %d, %v", b, state, err)
	}
	if _, _, err := c.Read(8, 9); err != api.ErrClosed {
		t.Errorf("P15: Read of no stream = %v", err)
	}
	if c.Err() != api.ErrFlow {
		t.Errorf("P21: Err = %v", c.Err())
	}
}

func TestP12DamagedPackets(t *testing.T) {
	c := newSide(t, small)
	sound := encoded(t, packet(1, data(0, 0, "abc", true), maxData(1000)))
	for i := range sound {
		for _, x := range []byte{1, 0x80, 0xff} {
			b := bytes.Clone(sound)
			b[i] ^= x
			if err := c.Receive(b); err != api.ErrSum {
				t.Fatalf("P12: Receive(%x) = %v", b, err)
			}
		}
		if err := c.Receive(sound[:i]); err != api.ErrSum {
			t.Fatalf("P12: Receive(%x) = %v", sound[:i], err)
		}
	}
	if l := c.Packets(); l != nil || c.Err() != nil {
		t.Errorf("P12: packets that are damaged turn the side: %x, %v", l, c.Err())
	}
	reads(t, c, 0, 9, "", api.Open)
	if err := c.Receive(sound); err != nil {
		t.Errorf("P12: Receive = %v", err)
	}
	reads(t, c, 0, 9, "abc", api.Finished)
}

func TestP12FramesThatAreNone(t *testing.T) {
	for _, x := range []struct {
		body string
		at   int
	}{
		{"", 0},
		{"40", 0},
		{"05", 0},
		{"05ff", 1},
		{"050108", 2},
		{"05" + "0800" + "00" + "03" + "616263" + "0900", 8},
		{"05" + "0801" + "00" + "01" + "61" + "0808" + "00" + "00", 6},
	} {
		c := newSide(t, small)
		send(t, c, 0, "abc")
		err := c.Receive(sealed(t, x.body))
		var f *api.Fault
		if !errors.As(err, &f) || f.Err != api.ErrFrame || f.At != x.at {
			t.Errorf("P12: Receive of %s = %v, want a fault at %d", x.body, err, x.at)
		}
		if c.Err() != api.ErrFrame {
			t.Errorf("P12: Err behind %s = %v", x.body, c.Err())
		}
		if err := c.Send(0, nil); err != api.ErrClosed {
			t.Errorf("P12: Send behind %s = %v", x.body, err)
		}
		if err := c.Receive(encoded(t, packet(1, api.Frame{Kind: api.Ping}))); err != api.ErrClosed {
			t.Errorf("P12: Receive behind %s = %v", x.body, err)
		}
	}
}

// A frame that is none is told of ahead of a number that came.
func TestP12FramesThatAreNoneUnderANumberThatCame(t *testing.T) {
	c := newSide(t, small)
	come(t, c, 5, api.Frame{Kind: api.Ping})
	if err := c.Receive(sealed(t, "05ff")); !errors.Is(err, api.ErrFrame) || c.Err() != api.ErrFrame {
		t.Errorf("P12: Receive = %v", err)
	}
}

func TestP12PacketsThatComeTwice(t *testing.T) {
	c := newSide(t, small)
	come(t, c, 7, data(0, 0, "abc", false))
	c.Packets()
	come(t, c, 7, data(0, 0, "abc", false))
	come(t, c, 7, data(0, 3, "def", true))
	come(t, c, 7, data(0, 99, "def", true), ack(one(50)))
	if l := c.Packets(); l != nil {
		t.Errorf("P12: a packet that came twice is answered: %x", l)
	}
	reads(t, c, 0, 9, "abc", api.Open)
	come(t, c, 6, data(0, 3, "d", false))
	come(t, c, 8, data(0, 4, "e", false))
	come(t, c, 0, data(0, 5, "f", false))
	come(t, c, most, data(0, 6, "g", false))
	come(t, c, most, data(0, 7, "h", false))
	reads(t, c, 0, 9, "defg", api.Open)
}

func TestP12PacketsBelowTheFloor(t *testing.T) {
	c := newSide(t, small)
	for n := range uint64(9) { // 100, 200 .. 900: 100 goes, the floor is 101
		come(t, c, 100+100*n, api.Frame{Kind: api.Ping})
	}
	c.Packets()
	come(t, c, 100, data(0, 0, "x", true))
	come(t, c, 0, data(0, 0, "x", true))
	come(t, c, 99, ack(one(50)))
	reads(t, c, 0, 9, "", api.Open)
	if l := c.Packets(); l != nil || c.Err() != nil {
		t.Errorf("P12: packets below the floor turn the side: %x, %v", l, c.Err())
	}
	come(t, c, 101, data(0, 0, "y", false)) // it goes at once, but came
	reads(t, c, 0, 9, "y", api.Open)
	come(t, c, 150, data(0, 1, "z", false))
	come(t, c, 150, data(0, 2, "z", false))
	come(t, c, 200, data(0, 2, "z", false))
	reads(t, c, 0, 9, "z", api.Open)
	come(t, c, 201, data(0, 2, "!", true))
	reads(t, c, 0, 9, "!", api.Finished)
}

func TestP12FramesAheadOfAnErrorCount(t *testing.T) {
	c := newSide(t, small)
	frames := []api.Frame{data(0, 0, "abc", true), data(1, 0, "d", false), data(0, 2, "c", true), data(0, 4, "", false), data(1, 21, "", false)}
	if err := c.Receive(encoded(t, packet(0, frames...))); err != api.ErrFinal || c.Err() != api.ErrFinal {
		t.Errorf("P12: Receive = %v, Err = %v", err, c.Err())
	}
	c = newSide(t, small)
	if err := c.Receive(encoded(t, packet(0, data(0, 4, "", false), data(1, 21, "", false), data(0, 3, "", true)))); err != api.ErrFlow {
		t.Errorf("P12: Receive = %v", err)
	}
	c = newSide(t, small)
	if err := c.Receive(encoded(t, packet(0, ack(one(0)), data(1, 21, "", false)))); err != api.ErrAck {
		t.Errorf("P12: Receive = %v", err)
	}
}

// refusal: frames that come in one packet, or each in one of its own, and the error of the last one.
type refusal struct {
	frames []api.Frame
	err    api.Errno
}

func (r refusal) asked(t *testing.T, i int, c api.Config) {
	t.Helper()
	whole, parts := newSide(t, c), newSide(t, c)
	var want error
	if r.err != 0 {
		want = r.err
	}
	if err := whole.Receive(encoded(t, packet(0, r.frames...))); err != want || whole.Err() != want {
		t.Errorf("row %d: Receive = %v, Err = %v, want %v", i, err, whole.Err(), want)
	}
	last := len(r.frames) - 1
	for k, f := range r.frames[:last] {
		come(t, parts, uint64(k), f)
	}
	if err := parts.Receive(encoded(t, packet(uint64(last), r.frames[last]))); err != want || parts.Err() != want {
		t.Errorf("row %d, frame by frame: Receive = %v, Err = %v, want %v", i, err, parts.Err(), want)
	}
}

func TestP13ErrFinal(t *testing.T) {
	for i, r := range []refusal{
		// behind an end that is known
		{[]api.Frame{data(2, 0, "abc", true), data(2, 3, "d", false)}, api.ErrFinal},
		{[]api.Frame{data(2, 0, "abc", true), data(2, 0, "abcd", false)}, api.ErrFinal},
		{[]api.Frame{data(2, 0, "abc", true), data(2, 4, "", false)}, api.ErrFinal},
		{[]api.Frame{data(2, 0, "abc", true), data(2, 100, "y", false)}, api.ErrFinal},
		{[]api.Frame{data(2, 0, "abc", true), data(2, most, "", true)}, api.ErrFinal},
		{[]api.Frame{data(2, 5, "", true), data(2, 6, "", false)}, api.ErrFinal},
		// one that moves
		{[]api.Frame{data(2, 0, "abc", true), data(2, 0, "ab", true)}, api.ErrFinal},
		{[]api.Frame{data(2, 0, "abc", true), data(2, 0, "abcd", true)}, api.ErrFinal},
		{[]api.Frame{data(2, 0, "", true), data(2, 0, "a", true)}, api.ErrFinal},
		{[]api.Frame{data(2, 5, "", true), data(2, 4, "", true)}, api.ErrFinal},
		{[]api.Frame{data(2, 5, "", true), data(2, 0, "", true)}, api.ErrFinal},
		// ahead of what came
		{[]api.Frame{data(2, 0, "abc", false), data(2, 0, "ab", true)}, api.ErrFinal},
		{[]api.Frame{data(2, 0, "abc", false), data(2, 0, "", true)}, api.ErrFinal},
		{[]api.Frame{data(2, 9, "", false), data(2, 8, "", true)}, api.ErrFinal},
		{[]api.Frame{data(2, 9, "x", false), data(2, 0, "0123", false), data(2, 4, "56789", true)}, api.ErrFinal},
		// none of these
		{[]api.Frame{data(2, 0, "abc", true), data(2, 3, "", false)}, 0},
		{[]api.Frame{data(2, 0, "abc", true), data(2, 3, "", true)}, 0},
		{[]api.Frame{data(2, 0, "abc", true), data(2, 0, "abc", true)}, 0},
		{[]api.Frame{data(2, 0, "abc", true), data(2, 0, "ab", false)}, 0},
		{[]api.Frame{data(2, 0, "abc", true), data(3, 0, "abcd", true)}, 0},
		{[]api.Frame{data(2, 0, "abc", false), data(2, 3, "", true)}, 0},
		{[]api.Frame{data(2, 0, "abc", false), data(2, 2, "c", true)}, 0},
		{[]api.Frame{data(2, 9, "", false), data(2, 9, "", true)}, 0},
	} {
		r.asked(t, i, small)
	}
}

func TestP13ErrFlow(t *testing.T) {
	for i, r := range []refusal{
		{[]api.Frame{data(1, 0, strings.Repeat("x", 20), false)}, 0},
		{[]api.Frame{data(1, 0, strings.Repeat("x", 21), false)}, api.ErrFlow},
		{[]api.Frame{data(1, 10, "0123456789", true)}, 0},
		{[]api.Frame{data(1, 10, "0123456789a", false)}, api.ErrFlow},
		{[]api.Frame{data(1, 20, "", false)}, 0},
		{[]api.Frame{data(1, 21, "", false)}, api.ErrFlow},
		{[]api.Frame{data(1, 21, "", true)}, api.ErrFlow},
		{[]api.Frame{data(1, most, "", false)}, api.ErrFlow},
		{[]api.Frame{data(1, most-5, "abcde", true)}, api.ErrFlow},
		// of all streams
		{[]api.Frame{data(0, 19, "y", false), data(7, 9, "y", false)}, 0},
		{[]api.Frame{data(0, 19, "y", false), data(7, 10, "y", false)}, api.ErrFlow},
		{[]api.Frame{data(0, 20, "", false), data(7, 10, "", true)}, 0},
		{[]api.Frame{data(0, 20, "", false), data(7, 11, "", true)}, api.ErrFlow},
		{[]api.Frame{data(0, 10, "", true), data(1, 10, "", true), data(2, 10, "", true), data(3, 0, "", true)}, 0},
		{[]api.Frame{data(0, 10, "", true), data(1, 10, "", true), data(2, 10, "", true), data(3, 1, "", true)}, api.ErrFlow},
		{[]api.Frame{data(0, 0, "abcdefghijklmno", false), data(1, 0, "abcdefghijklmno", false), data(0, 5, "f", false), data(1, 15, "", false)}, 0},
		{[]api.Frame{data(0, 0, "abcdefghijklmno", false), data(1, 0, "abcdefghijklmno", false), data(1, 14, "op", false)}, api.ErrFlow},
	} {
		r.asked(t, i, small)
	}
}

// A stream of which all is granted that there can be is not yet one that all streams have room for.
func TestP13WindowAboveTotal(t *testing.T) {
	refusal{[]api.Frame{data(0, 16, "", false)}, 0}.asked(t, 0, api.Config{MTU: 64, Window: 4096, Total: 16})
	refusal{[]api.Frame{data(0, 17, "", false)}, api.ErrFlow}.asked(t, 1, api.Config{MTU: 64, Window: 4096, Total: 16})
	refusal{[]api.Frame{data(0, 4095, "x", false)}, 0}.asked(t, 2, wide)
	refusal{[]api.Frame{data(0, 4096, "x", false)}, api.ErrFlow}.asked(t, 3, wide)
}

func TestP13GrantsCountWhenTheyAreTold(t *testing.T) {
	ready := func() *mediawire.Conn {
		c := newSide(t, small)
		come(t, c, 0, data(0, 0, strings.Repeat("x", 20), false))
		reads(t, c, 0, 5, "xxxxx", api.Open)
		return c
	}
	c := ready()
	if err := c.Receive(encoded(t, packet(1, data(0, 20, "y", false)))); err != api.ErrFlow {
		t.Errorf("P13: bytes that were read, but not yet granted again: %v", err)
	}
	c = ready()
	c.Packets()
	come(t, c, 1, data(0, 20, "yyyyy", false))
	if err := c.Receive(encoded(t, packet(2, data(0, 25, "y", false)))); err != api.ErrFlow {
		t.Errorf("P13: one byte more than granted: %v", err)
	}
	c = ready()
	c.Packets()
	come(t, c, 1, data(1, 0, strings.Repeat("y", 15), false))
	if err := c.Receive(encoded(t, packet(2, data(1, 15, "y", false)))); err != api.ErrFlow {
		t.Errorf("P13: one byte more than granted of all streams: %v", err)
	}
}

func TestP13BytesThatComeTwice(t *testing.T) {
	for i, row := range []struct {
		frames []api.Frame
		text   string
	}{
		{[]api.Frame{data(0, 0, "abc", false), data(0, 1, "XYZ", false)}, "abcZ"},
		{[]api.Frame{data(0, 0, "abc", false), data(0, 0, "XYZ", false)}, "abc"},
		{[]api.Frame{data(0, 2, "c", false), data(0, 4, "e", false), data(0, 0, "01234", false)}, "01c3e"},
		{[]api.Frame{data(0, 1, "bc", false), data(0, 0, "0", false), data(0, 0, "012345", false)}, "0bc345"},
		{[]api.Frame{data(0, 3, "d", false), data(0, 1, "b", false)}, ""},
		{[]api.Frame{data(0, 3, "d", false), data(0, 0, "a", false)}, "a"},
		{[]api.Frame{data(0, 3, "d", false), data(0, 0, "ab", false), data(0, 2, "c", false)}, "abcd"},
		{[]api.Frame{data(0, 5, "", false), data(0, 0, "a", false)}, "a"},
		{[]api.Frame{data(0, 0, "\x00\x00", false), data(0, 0, "abc", false)}, "\x00\x00c"},
		{[]api.Frame{data(1, 0, "abc", false), data(0, 0, "x", false)}, "x"},
	} {
		c := newSide(t, small)
		come(t, c, 0, row.frames...)
		b, state, err := c.Read(0, 99)
		if string(b) != row.text || state != api.Open || err != nil {
			t.Errorf("P13: row %d: Read = %q, %d, %v, want %q", i, b, state, err, row.text)
		}
	}
}

func TestP13BytesThatWereReadComeAgain(t *testing.T) {
	c := newSide(t, small)
	come(t, c, 0, data(0, 0, "abcdef", false))
	reads(t, c, 0, 4, "abcd", api.Open)
	come(t, c, 1, data(0, 0, "XY", false), data(0, 2, "XY", false), data(0, 3, "XYZT", false), data(0, 0, "", false))
	reads(t, c, 0, 9, "efT", api.Open)
	come(t, c, 2, data(0, 0, "0123456789", true))
	reads(t, c, 0, 9, "789", api.Finished)
	come(t, c, 3, data(0, 0, "0123456789", true), data(0, 4, "56", false))
	reads(t, c, 0, 9, "", api.Finished)
}

func TestP14AckOfWhatWasNotSent(t *testing.T) {
	for i, row := range []struct {
		ranges []api.Range
		err    error
	}{
		{[]api.Range{one(0)}, nil},
		{[]api.Range{one(2)}, nil},
		{[]api.Range{{Lo: 0, Hi: 2}}, nil},
		{[]api.Range{one(2), one(0)}, nil},
		{[]api.Range{one(3)}, api.ErrAck},
		{[]api.Range{{Lo: 0, Hi: 3}}, api.ErrAck},
		{[]api.Range{one(3), one(0)}, api.ErrAck},
		{[]api.Range{one(most), one(0)}, api.ErrAck},
		{[]api.Range{{Lo: 0, Hi: most}}, api.ErrAck},
	} {
		c := newSide(t, small)
		for k := range 3 {
			send(t, c, k, "x")
			if l := sent(t, c); len(l) != 1 {
				t.Fatalf("P10: %+v", l)
			}
		}
		if err := c.Receive(encoded(t, packet(0, ack(row.ranges...)))); err != row.err || c.Err() != row.err {
			t.Errorf("P14: row %d: Receive = %v, Err = %v, want %v", i, err, c.Err(), row.err)
		}
	}
	refusal{[]api.Frame{ack(one(0))}, api.ErrAck}.asked(t, 100, small)
}

func TestP14AnswersThatWereSentMayBeNamed(t *testing.T) {
	c := newSide(t, small)
	come(t, c, 0, api.Frame{Kind: api.Ping})
	c.Packets()
	come(t, c, 1, ack(one(0)))
}

func TestP14PingsAndGrantsOfNoUse(t *testing.T) {
	c := newSide(t, small)
	come(t, c, 0, api.Frame{Kind: api.Ping}, maxData(0), maxStream(7, 0), maxData(most), maxStream(0, most))
	want := []api.Packet{packet(0, ack(one(0)))}
	if got := sent(t, c); !reflect.DeepEqual(got, want) {
		t.Errorf("P14: %+v, want %+v", got, want)
	}
}

func TestP15ReadingWithHoles(t *testing.T) {
	c := newSide(t, small)
	come(t, c, 0, data(3, 5, "fgh", true))
	reads(t, c, 3, 99, "", api.Open)
	come(t, c, 1, data(3, 0, "ab", false))
	reads(t, c, 3, 1, "a", api.Open)
	reads(t, c, 3, 99, "b", api.Open)
	reads(t, c, 3, 99, "", api.Open)
	come(t, c, 2, data(3, 3, "de", false))
	reads(t, c, 3, 99, "", api.Open)
	come(t, c, 3, data(3, 2, "c", false))
	reads(t, c, 3, 5, "cdefg", api.Open)
	reads(t, c, 3, 1, "h", api.Finished)
	reads(t, c, 3, 1, "", api.Finished)
	reads(t, c, 2, 1, "", api.Open)
}

func TestP15MostThatIsNoNumberOfBytes(t *testing.T) {
	c := newSide(t, small)
	come(t, c, 0, data(0, 0, "abc", true))
	for _, most := range []int{0, -1, -5, math.MinInt} {
		reads(t, c, 0, most, "", api.Open)
	}
	reads(t, c, 0, math.MaxInt, "abc", api.Finished)
	for _, most := range []int{0, -1, 1, math.MinInt, math.MaxInt} {
		reads(t, c, 0, most, "", api.Finished)
	}
}

func TestP15TheEnd(t *testing.T) {
	c := newSide(t, small)
	come(t, c, 0, data(0, 0, "", true), data(1, 0, "ab", false))
	reads(t, c, 0, -1, "", api.Finished)
	reads(t, c, 0, 5, "", api.Finished)
	reads(t, c, 1, 5, "ab", api.Open)
	come(t, c, 1, data(1, 2, "", true))
	reads(t, c, 1, 0, "", api.Finished)
	come(t, c, 2, data(1, 0, "XY", true), data(0, 0, "", false))
	reads(t, c, 0, 5, "", api.Finished)
	reads(t, c, 1, 5, "", api.Finished)
}
