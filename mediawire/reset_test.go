package mediawire_test

import (
	"bytes"
	"math"
	"reflect"
	"strings"
	"testing"

	"mediawire/api"
	"mediawire/mediawire"
)

const digits = "0123456789"

// give: a stream is given up, and nothing is wrong with that.
func give(t testing.TB, c *mediawire.Conn, k int, keep int) {
	t.Helper()
	if err := c.Reset(k, keep); err != nil {
		t.Fatalf("P20: Reset(%d, %d) = %v", k, keep, err)
	}
}

func TestP20Errors(t *testing.T) {
	c := closedSide(t)
	for _, k := range []int{-1, 0, 7, 8} {
		if err := c.Reset(k, 0); err != api.ErrClosed {
			t.Errorf("P20: Reset(%d) of a side that is closed: %v", k, err)
		}
	}
	c = newSide(t, small)
	for _, k := range []int{-1, 8, math.MinInt, math.MaxInt} {
		if err := c.Reset(k, 0); err != api.ErrStream {
			t.Errorf("P20: Reset(%d) = %v", k, err)
		}
	}
	sends(t, c)
	for k := range 8 {
		for _, keep := range []int{math.MaxInt, 5, math.MinInt, 0, 7} {
			give(t, c, k, keep)
		}
	}
	if l := frames(sent(t, c), api.ResetAt); len(l) != 8 {
		t.Errorf("P20: %+v", l)
	}
}

func TestP9StreamsThatWereGivenUp(t *testing.T) {
	tooMuch := make([]byte, 2049)
	for _, ended := range []bool{false, true} {
		c := newSide(t, small)
		send(t, c, 1, "ab")
		if ended {
			finish(t, c, 1)
		}
		give(t, c, 1, 9)
		for i, err := range []error{c.Send(1, nil), c.Send(1, []byte("c")), c.Send(1, tooMuch), c.Finish(1)} {
			if err != api.ErrState {
				t.Errorf("P9: row %d: %v", i, err)
			}
		}
		send(t, c, 2, "other")
		finish(t, c, 2)
		want := []api.Frame{data(1, 0, "ab", false), data(2, 0, "other", true)}
		if got := frames(sent(t, c), api.Data); !reflect.DeepEqual(got, want) {
			t.Errorf("P9: %+v, want %+v", got, want)
		}
	}
}

// keeps of one Reset: what ResetAt says, and the bytes that follow it.
func TestP20Keep(t *testing.T) {
	for i, row := range []struct {
		written   int
		sent      bool // ahead of Reset, as far as the window of 20 goes
		keep      int
		offset    uint64
		reliable  uint64
		behind    string // bytes that are sent with ResetAt
		andBehind string // and once all is granted
	}{
		{0, false, -1, 0, 0, "", ""},
		{0, false, 0, 0, 0, "", ""},
		{0, false, 5, 0, 0, "", ""},
		{0, true, 5, 0, 0, "", ""},
		{10, false, math.MinInt, 0, 0, "", ""},
		{10, false, -1, 0, 0, "", ""},
		{10, false, 0, 0, 0, "", ""},
		{10, false, 1, 1, 1, "0", ""},
		{10, false, 9, 9, 9, "012345678", ""},
		{10, false, 10, 10, 10, digits, ""},
		{10, false, 11, 10, 10, digits, ""},
		{10, false, math.MaxInt, 10, 10, digits, ""},
		{10, true, -1, 10, 0, "", ""},
		{10, true, 0, 10, 0, "", ""},
		{10, true, 9, 10, 9, "", ""},
		{10, true, 10, 10, 10, "", ""},
		{10, true, 11, 10, 10, "", ""},
		{40, false, 25, 25, 25, digits + digits, "01234"},
		{40, false, 99, 40, 40, digits + digits, digits + digits},
		{40, true, 0, 20, 0, "", ""},
		{40, true, 19, 20, 19, "", ""},
		{40, true, 20, 20, 20, "", ""},
		{40, true, 21, 21, 21, "", "0"},
		{40, true, 39, 39, 39, "", digits + "012345678"},
		{40, true, 40, 40, 40, "", digits + digits},
		{40, true, 41, 40, 40, "", digits + digits},
	} {
		c := newSide(t, api.Config{MTU: 400, Window: 20, Total: 4096})
		send(t, c, 6, strings.Repeat(digits, 4)[:row.written])
		if row.sent {
			c.Packets()
		}
		give(t, c, 6, row.keep)
		l := sent(t, c)
		if got, want := frames(l, api.ResetAt), []api.Frame{resetAt(6, row.offset, row.reliable)}; !reflect.DeepEqual(got, want) {
			t.Errorf("P20: row %d: %+v, want %+v", i, got, want)
		}
		come(t, c, 0, maxStream(6, 4096))
		for _, x := range []struct {
			l    []api.Packet
			want string
		}{{l, row.behind}, {sent(t, c), row.andBehind}} {
			got := ""
			for _, f := range frames(x.l, api.Data) {
				got += f.Data
				if f.Fin {
					t.Errorf("P11: row %d: %+v", i, f)
				}
			}
			if got != x.want {
				t.Errorf("P20: row %d: %q is sent, want %q", i, got, x.want)
			}
		}
		sends(t, c)
	}
}

func TestP20SecondReset(t *testing.T) {
	c := newSide(t, wide)
	send(t, c, 3, digits)
	sends(t, c, packet(0, data(3, 0, digits, false)))
	give(t, c, 3, 7)
	sends(t, c, packet(1, resetAt(3, 10, 7)))
	for _, keep := range []int{7, 8, 10, 99, math.MaxInt} { // no less
		give(t, c, 3, keep)
		sends(t, c)
	}
	give(t, c, 3, 4)
	sends(t, c, packet(2, resetAt(3, 10, 4)))
	give(t, c, 3, 5)
	sends(t, c)
	give(t, c, 3, -9)
	sends(t, c, packet(3, resetAt(3, 10, 0)))
	give(t, c, 3, 0)
	sends(t, c)
}

// Where the stream ends is said once: keep as it was at the first Reset counts for that, sent or not.
func TestP20OffsetStays(t *testing.T) {
	c := newSide(t, wide)
	send(t, c, 3, digits)
	give(t, c, 3, 7)
	give(t, c, 3, 2) // ahead of any packet
	sends(t, c, packet(0, resetAt(3, 7, 2), data(3, 0, "01", false)))
	ticks(c, 6)
	sends(t, c, packet(1, resetAt(3, 7, 2), data(3, 0, "01", false)))
	give(t, c, 3, 1)
	sends(t, c, packet(2, resetAt(3, 7, 1)))
	ticks(c, 6)
	sends(t, c, packet(3, resetAt(3, 7, 1), data(3, 0, "0", false)))

	c = newSide(t, small) // 20 of 40 bytes were sent, 30 are kept, then 25
	send(t, c, 0, strings.Repeat(digits, 4))
	sends(t, c, packet(0, data(0, 0, digits+digits, false)))
	give(t, c, 0, 30)
	sends(t, c, packet(1, resetAt(0, 30, 30)))
	give(t, c, 0, 25)
	sends(t, c, packet(2, resetAt(0, 30, 25)))
	come(t, c, 0, maxStream(0, 40), maxData(4096))
	if got, want := frames(sent(t, c), api.Data), []api.Frame{data(0, 20, "01234", false)}; !reflect.DeepEqual(got, want) {
		t.Errorf("P20: %+v, want %+v", got, want)
	}
}

func TestP20AheadOfAndBehindFinish(t *testing.T) {
	c := newSide(t, wide) // behind Finish, nothing sent
	send(t, c, 0, "abc")
	finish(t, c, 0)
	give(t, c, 0, 99)
	sends(t, c, packet(0, resetAt(0, 3, 3), data(0, 0, "abc", false)))
	ticks(c, 6)
	sends(t, c, packet(1, resetAt(0, 3, 3), data(0, 0, "abc", false)))

	c = newSide(t, wide) // behind Finish, all sent
	send(t, c, 0, "abc")
	finish(t, c, 0)
	sends(t, c, packet(0, data(0, 0, "abc", true)))
	give(t, c, 0, 2)
	sends(t, c, packet(1, resetAt(0, 3, 2)))
	ticks(c, 6) // the end is not told again, nor what was given up
	sends(t, c, packet(2, resetAt(0, 3, 2), data(0, 0, "ab", false)))

	c = newSide(t, wide) // the bytes were sent, their end was not
	send(t, c, 0, "abc")
	sends(t, c, packet(0, data(0, 0, "abc", false)))
	finish(t, c, 0)
	give(t, c, 0, 3)
	sends(t, c, packet(1, resetAt(0, 3, 3)))

	c = newSide(t, wide) // all came, the end too
	send(t, c, 0, "abc")
	finish(t, c, 0)
	sends(t, c, packet(0, data(0, 0, "abc", true)))
	come(t, c, 0, ack(one(0)))
	give(t, c, 0, 1)
	sends(t, c, packet(1, resetAt(0, 3, 1)))

	c = newSide(t, wide) // an end without bytes
	finish(t, c, 0)
	give(t, c, 0, 1)
	sends(t, c, packet(0, resetAt(0, 0, 0)))
	sends(t, c)
}

func TestP16StreamsThatWereGivenUp(t *testing.T) {
	c := newSide(t, wide)
	send(t, c, 0, digits)
	give(t, c, 0, 0)
	sends(t, c, packet(0, resetAt(0, 0, 0)))
	ticks(c, 5)
	sends(t, c)
	for n := range uint64(20) {
		c.Tick()
		sends(t, c, packet(n+1, resetAt(0, 0, 0)))
		ticks(c, 5)
		sends(t, c)
	}
	come(t, c, 0, ack(one(20)))
	ticks(c, 20)
	sends(t, c)
}

// As it is then: a lost ResetAt is of no use any more, if one with a lesser Reliable came or is on its way.
func TestP16NoticesThatLesserOnesFollow(t *testing.T) {
	c := newSide(t, wide)
	send(t, c, 0, digits)
	give(t, c, 0, 9)
	sends(t, c, packet(0, resetAt(0, 9, 9), data(0, 0, "012345678", false)))
	come(t, c, 0, ack(one(0)))
	give(t, c, 0, 8)
	sends(t, c, packet(1, resetAt(0, 9, 8)))
	c.Tick()
	give(t, c, 0, 7)
	sends(t, c, packet(2, resetAt(0, 9, 7)))
	ticks(c, 5)
	sends(t, c) // 1 is lost
	c.Tick()
	give(t, c, 0, 6)
	sends(t, c, packet(3, resetAt(0, 9, 6)))
	come(t, c, 1, ack(one(3)))
	ticks(c, 10)
	sends(t, c)
}

func TestP16AcksOfNoticesThatWereLost(t *testing.T) {
	c := newSide(t, wide)
	give(t, c, 4, 0)
	sends(t, c, packet(0, resetAt(4, 0, 0)))
	ticks(c, 6)
	come(t, c, 0, ack(one(0))) // late, but ahead of the sending
	sends(t, c)
	give(t, c, 5, 0)
	sends(t, c, packet(1, resetAt(5, 0, 0)))
	ticks(c, 6)
	sends(t, c, packet(2, resetAt(5, 0, 0)))
	come(t, c, 1, ack(one(1)))
	ticks(c, 6)
	sends(t, c)
}

// Bytes that were given up are not sent again when they are lost, those ahead of them are; three numbers above make them lost like all else.
func TestP16BytesOfStreamsThatWereGivenUp(t *testing.T) {
	c := apart(t, 7)
	give(t, c, 0, 2)
	sends(t, c, packet(7, resetAt(0, 7, 2)))
	come(t, c, 0, ack(one(6)))
	sends(t, c, packet(8, data(0, 0, "ab", false)))
	give(t, c, 0, 1)
	sends(t, c, packet(9, resetAt(0, 7, 1)))
	come(t, c, 1, ack(one(9)))
	ticks(c, 6)
	sends(t, c, packet(10, data(0, 0, "a", false)))
	come(t, c, 2, ack(one(0)))
	ticks(c, 6)
	sends(t, c)
}

// What was sent of a stream counts for all streams, given up or not; what will not be sent does not.
func TestP11CreditOfStreamsThatWereGivenUp(t *testing.T) {
	c := newSide(t, small)
	for k := range 3 {
		send(t, c, k, strings.Repeat("x", 100))
	}
	give(t, c, 0, 5)
	if n := lengths(sent(t, c)); n != [8]int{5, 20, 5} {
		t.Errorf("P11: %v bytes are sent", n)
	}
	give(t, c, 1, 0)
	come(t, c, 0, maxData(31))
	if n := lengths(sent(t, c)); n != [8]int{0, 0, 1} {
		t.Errorf("P11: %v bytes are sent", n)
	}
	ticks(c, 6)
	if n := lengths(sent(t, c)); n != [8]int{5, 0, 6} {
		t.Errorf("P11, P16: %v bytes are sent", n)
	}
}

func TestP20NoticesWaitForRoomOnTheWay(t *testing.T) {
	c := crowded(t)
	give(t, c, 5, 0)
	sends(t, c)
	come(t, c, 0, ack(one(0)))
	if l := sent(t, c); len(l) != 1 || !reflect.DeepEqual(l[0].Frames[0], resetAt(5, 0, 0)) {
		t.Errorf("P10, P20: %+v", l)
	}
}

func TestP20ErrFinal(t *testing.T) {
	for i, r := range []refusal{
		// the end is known, and is another
		{[]api.Frame{resetAt(2, 9, 2), resetAt(2, 8, 2)}, api.ErrFinal},
		{[]api.Frame{resetAt(2, 9, 2), resetAt(2, 10, 2)}, api.ErrFinal},
		{[]api.Frame{resetAt(2, 0, 0), resetAt(2, most, 0)}, api.ErrFinal},
		{[]api.Frame{data(2, 0, "abc", true), resetAt(2, 2, 2)}, api.ErrFinal},
		{[]api.Frame{data(2, 0, "abc", true), resetAt(2, 4, 0)}, api.ErrFinal},
		{[]api.Frame{data(2, 0, "", true), resetAt(2, 1, 0)}, api.ErrFinal},
		{[]api.Frame{resetAt(2, 3, 0), data(2, 0, "ab", true)}, api.ErrFinal},
		{[]api.Frame{resetAt(2, 3, 0), data(2, 0, "abcd", true)}, api.ErrFinal},
		{[]api.Frame{resetAt(2, 3, 0), data(2, 0, "", true)}, api.ErrFinal},
		// a frame ends behind it
		{[]api.Frame{data(2, 0, "abcd", false), resetAt(2, 3, 0)}, api.ErrFinal},
		{[]api.Frame{data(2, 0, "abcd", false), resetAt(2, 0, 0)}, api.ErrFinal},
		{[]api.Frame{data(2, 7, "", false), resetAt(2, 6, 6)}, api.ErrFinal},
		{[]api.Frame{resetAt(2, 3, 3), data(2, 0, "abcd", false)}, api.ErrFinal},
		{[]api.Frame{resetAt(2, 3, 3), data(2, 4, "", false)}, api.ErrFinal},
		{[]api.Frame{resetAt(2, 3, 3), data(2, most, "", false)}, api.ErrFinal},
		// none of these
		{[]api.Frame{resetAt(2, 9, 2), resetAt(2, 9, 2)}, 0},
		{[]api.Frame{resetAt(2, 9, 2), resetAt(2, 9, 9)}, 0},
		{[]api.Frame{resetAt(2, 9, 2), resetAt(2, 9, 0)}, 0},
		{[]api.Frame{resetAt(2, 9, 2), resetAt(3, 8, 2)}, 0},
		{[]api.Frame{data(2, 0, "abc", true), resetAt(2, 3, 3)}, 0},
		{[]api.Frame{data(2, 0, "abc", true), resetAt(2, 3, 0)}, 0},
		{[]api.Frame{resetAt(2, 3, 1), data(2, 0, "abc", true)}, 0},
		{[]api.Frame{resetAt(2, 3, 1), data(2, 0, "abc", false)}, 0},
		{[]api.Frame{resetAt(2, 3, 1), data(2, 3, "", true)}, 0},
		{[]api.Frame{data(2, 0, "abcd", false), resetAt(2, 4, 0)}, 0},
		{[]api.Frame{data(2, 0, "abcd", false), resetAt(2, 5, 5)}, 0},
		{[]api.Frame{resetAt(2, 0, 0)}, 0},
		// it needs no grant; bytes do as ever
		{[]api.Frame{resetAt(2, 1<<40, 1<<39)}, 0},
		{[]api.Frame{resetAt(2, most, most)}, 0},
		{[]api.Frame{resetAt(2, most, 5), data(3, 20, "", false), data(4, 10, "", false)}, 0},
		{[]api.Frame{resetAt(2, most, 5), data(2, 20, "", false)}, 0},
		{[]api.Frame{resetAt(2, most, 5), data(2, 21, "", false)}, api.ErrFlow},
		{[]api.Frame{resetAt(2, most, 5), data(2, 20, "", false), data(3, 11, "", false)}, api.ErrFlow},
		{[]api.Frame{data(3, 20, "", false), resetAt(3, 20, 0), data(2, 11, "", false)}, api.ErrFlow},
	} {
		r.asked(t, i, small)
	}
}

func TestP20Reading(t *testing.T) {
	for i, row := range []struct {
		frames []api.Frame
		read   string
		state  int
	}{
		{[]api.Frame{resetAt(0, 9, 2)}, "", api.Open},
		{[]api.Frame{resetAt(0, 9, 0)}, "", api.Reset},
		{[]api.Frame{resetAt(0, 0, 0)}, "", api.Reset},
		{[]api.Frame{resetAt(0, most, 0)}, "", api.Reset},
		{[]api.Frame{resetAt(0, most, most)}, "", api.Open},
		{[]api.Frame{data(0, 0, "abcd", false), resetAt(0, 9, 2)}, "ab", api.Reset},
		{[]api.Frame{resetAt(0, 9, 2), data(0, 0, "abcd", false)}, "ab", api.Reset},
		{[]api.Frame{resetAt(0, 9, 2), data(0, 0, "ab", false)}, "ab", api.Reset},
		{[]api.Frame{resetAt(0, 9, 2), data(0, 0, "a", false)}, "a", api.Open},
		{[]api.Frame{resetAt(0, 9, 2), data(0, 1, "bcd", false)}, "", api.Open},
		{[]api.Frame{resetAt(0, 9, 2), data(0, 5, "x", false), data(0, 1, "b", false), data(0, 0, "a", false)}, "ab", api.Reset},
		{[]api.Frame{data(0, 0, "abcd", false), resetAt(0, 9, 4)}, "abcd", api.Reset},
		{[]api.Frame{data(0, 0, "abcd", false), resetAt(0, 9, 5)}, "abcd", api.Open},
		{[]api.Frame{data(0, 0, "abcd", false), resetAt(0, 4, 0)}, "", api.Reset},
		// never Finished
		{[]api.Frame{data(0, 0, "abcd", true), resetAt(0, 4, 4)}, "abcd", api.Reset},
		{[]api.Frame{resetAt(0, 4, 4), data(0, 0, "abcd", true)}, "abcd", api.Reset},
		{[]api.Frame{data(0, 0, "abcd", true), resetAt(0, 4, 1)}, "a", api.Reset},
		{[]api.Frame{data(0, 0, "", true), resetAt(0, 0, 0)}, "", api.Reset},
		// the least counts
		{[]api.Frame{resetAt(0, 9, 7), resetAt(0, 9, 3), resetAt(0, 9, 5), data(0, 0, "abcd", false)}, "abc", api.Reset},
		{[]api.Frame{resetAt(0, 9, 3), resetAt(0, 9, 7), data(0, 0, "abcd", false)}, "abc", api.Reset},
		{[]api.Frame{resetAt(0, 9, 7), data(0, 0, "abcd", false), resetAt(0, 9, 4)}, "abcd", api.Reset},
		{[]api.Frame{data(0, 0, "abcd", false), resetAt(0, 9, 3), resetAt(0, 9, 0)}, "", api.Reset},
		// of bytes that come twice the first ones stay
		{[]api.Frame{data(0, 0, "ab", false), resetAt(0, 9, 4), data(0, 1, "XYZ", false)}, "abYZ", api.Reset},
		// other streams have nothing to do with it
		{[]api.Frame{data(0, 0, "ab", true), resetAt(1, 9, 0)}, "ab", api.Finished},
	} {
		c := newSide(t, small)
		come(t, c, 0, row.frames...)
		b, state, err := c.Read(0, 99)
		if string(b) != row.read || state != row.state || err != nil {
			t.Errorf("P20: row %d: Read = %q, %d, %v, want %q, %d", i, b, state, err, row.read, row.state)
		}
		if b, again, _ := c.Read(0, 99); b != nil || again != state {
			t.Errorf("P15, P20: row %d: once more: %q, %d", i, b, again)
		}
	}
}

func TestP20ReadingInParts(t *testing.T) {
	c := newSide(t, small)
	come(t, c, 0, data(0, 0, "abcdef", false))
	reads(t, c, 0, 2, "ab", api.Open)
	come(t, c, 1, resetAt(0, 15, 8))
	reads(t, c, 0, 0, "", api.Open)
	reads(t, c, 0, -1, "", api.Open)
	reads(t, c, 0, 3, "cde", api.Open)
	come(t, c, 2, resetAt(0, 15, 7))
	reads(t, c, 0, 99, "f", api.Open)
	come(t, c, 3, data(0, 6, "ghijk", false))
	reads(t, c, 0, 0, "", api.Open)
	reads(t, c, 0, 1, "g", api.Reset)
	come(t, c, 4, data(0, 7, "hij", false), data(0, 0, "XXX", false), resetAt(0, 15, 15), resetAt(0, 15, 0))
	reads(t, c, 0, 99, "", api.Reset)
}

// What was read ahead of a Reset cannot be taken back; the state follows at once.
func TestP20ReadAheadOfTheReset(t *testing.T) {
	c := newSide(t, small)
	come(t, c, 0, data(0, 0, "abcdef", false))
	reads(t, c, 0, 4, "abcd", api.Open)
	come(t, c, 1, resetAt(0, 9, 3))
	reads(t, c, 0, 0, "", api.Reset)
	reads(t, c, 0, 9, "", api.Reset)

	c = newSide(t, small) // the end comes, but nobody is told of it ahead of the reset
	come(t, c, 0, data(0, 0, "abc", false))
	reads(t, c, 0, 9, "abc", api.Open)
	come(t, c, 1, data(0, 3, "", true), resetAt(0, 3, 1))
	reads(t, c, 0, 9, "", api.Reset)

	c = newSide(t, small) // a state that was told stays (P15)
	come(t, c, 0, data(0, 0, "abc", true))
	reads(t, c, 0, 9, "abc", api.Finished)
	come(t, c, 1, resetAt(0, 3, 1))
	reads(t, c, 0, 9, "", api.Finished)
	if err := c.Receive(encoded(t, packet(2, resetAt(0, 4, 1)))); err != api.ErrFinal {
		t.Errorf("P20: Receive = %v", err)
	}
}

// Bytes up to the Offset take no room, once Read has told that the stream was given up, and not ahead of that.
func TestP11GrantsOfStreamsThatWereGivenUp(t *testing.T) {
	c := newSide(t, small)
	come(t, c, 0, data(0, 0, strings.Repeat("x", 15), false), data(1, 0, "abc", false))
	come(t, c, 1, resetAt(0, 18, 2))
	sends(t, c, packet(0, ack(api.Range{Lo: 0, Hi: 1})))
	reads(t, c, 0, 1, "x", api.Open)
	if got, want := frames(sent(t, c), api.MaxData), []api.Frame{maxData(31)}; !reflect.DeepEqual(got, want) {
		t.Errorf("P11: %+v, want %+v", got, want)
	}
	reads(t, c, 0, 1, "x", api.Reset)
	if got, want := frames(sent(t, c), api.MaxData), []api.Frame{maxData(48)}; !reflect.DeepEqual(got, want) {
		t.Errorf("P11: %+v, want %+v", got, want)
	}
	reads(t, c, 1, 9, "abc", api.Open)
	if got, want := frames(sent(t, c), api.MaxData), []api.Frame{maxData(51)}; !reflect.DeepEqual(got, want) {
		t.Errorf("P11: %+v, want %+v", got, want)
	}
	come(t, c, 2, data(2, 0, strings.Repeat("y", 20), false), data(3, 11, "", false)) // 15, 3, 20 and 11 of 51
	if err := c.Receive(encoded(t, packet(3, data(3, 14, "", false)))); err != api.ErrFlow {
		t.Errorf("P13: Receive = %v", err)
	}
}

// A stream that was given up but for bytes that have no room yet is granted that room.
func TestP11GrantsForBytesThatAreKept(t *testing.T) {
	c := newSide(t, small)
	come(t, c, 0, resetAt(0, 45, 42), data(0, 0, digits+digits, false))
	reads(t, c, 0, 7, "0123456", api.Open)
	if got, want := frames(sent(t, c), api.MaxStream), []api.Frame{maxStream(0, 27)}; !reflect.DeepEqual(got, want) {
		t.Errorf("P11: %+v, want %+v", got, want)
	}
	ticks(c, 6)
	reads(t, c, 0, 99, "789"+digits, api.Open)
	if got, want := frames(sent(t, c), api.MaxStream), []api.Frame{maxStream(0, 40)}; !reflect.DeepEqual(got, want) {
		t.Errorf("P11, P16: %+v, want %+v", got, want)
	}
	come(t, c, 1, data(0, 20, digits+digits, false))
	reads(t, c, 0, 99, digits+digits, api.Open)
	if got, want := frames(sent(t, c), api.MaxStream), []api.Frame{maxStream(0, 60)}; !reflect.DeepEqual(got, want) {
		t.Errorf("P11: %+v, want %+v", got, want)
	}
	come(t, c, 2, data(0, 40, "ab", false))
	reads(t, c, 0, 99, "ab", api.Reset)
	l := sent(t, c)
	for _, f := range frames(l, api.MaxStream) {
		if f.Limit > 65 || f.Limit < 60 {
			t.Errorf("P11: %+v", f)
		}
	}
	if got, want := frames(l, api.MaxData), []api.Frame{maxData(75)}; !reflect.DeepEqual(got, want) {
		t.Errorf("P11: %+v, want %+v", got, want)
	}
}

func TestP11GreatestGrants(t *testing.T) {
	for _, offset := range []uint64{1 << 59, 1 << 60, 1 << 61, most - 31, most - 30, most - 29, most} {
		c := newSide(t, small)
		told, free := uint64(30), uint64(0)
		for k := range 8 {
			come(t, c, uint64(k), resetAt(k, offset, 0))
			reads(t, c, k, 9, "", api.Reset)
			free = min(most, free+offset)
			for _, f := range frames(sent(t, c), api.MaxData) {
				told = f.Limit
			}
			if want := min(most, free+30); told != want {
				t.Errorf("P11: %d streams end at %d: %d is granted, want %d", k+1, offset, told, want)
			}
		}
		for n := range uint64(3) {
			ticks(c, 6)
			for _, f := range frames(sent(t, c), api.MaxData) {
				if f.Limit != told {
					t.Errorf("P11, P16: MaxData %d behind %d", f.Limit, told)
				}
			}
			come(t, c, 100+n, api.Frame{Kind: api.Ping})
		}
		if c.Err() != nil {
			t.Errorf("P11: %v", c.Err())
		}
	}
}

// All ends together are above what 64 bits hold: what is granted of all is not.
func TestP11GreatestGrantsTogether(t *testing.T) {
	for _, last := range []uint64{0, 4, 10, 1 << 40, most} {
		c := newSide(t, small)
		for k, offset := range []uint64{most, most, most, most, last} {
			come(t, c, uint64(k), resetAt(k, offset, 0))
			reads(t, c, k, 9, "", api.Reset)
		}
		if got, want := frames(sent(t, c), api.MaxData), []api.Frame{maxData(most)}; !reflect.DeepEqual(got, want) {
			t.Errorf("P11: %+v, want %+v", got, want)
		}
	}
}

// The stages of a stream that is given up, from side to side, with a window that it does not fit in.
func TestP20FromSideToSide(t *testing.T) {
	for keep := -1; keep < 42; keep++ {
		for sentAhead := range 3 {
			a, b := newSide(t, small), newSide(t, small)
			send(t, a, 2, strings.Repeat(digits, 4))
			for range sentAhead {
				carry(t, a, b)
			}
			give(t, a, 2, keep)
			got, state := "", api.Open
			for range 12 {
				carry(t, a, b)
				text, now, err := b.Read(2, 3)
				if err != nil || state != api.Open && (text != nil || now != state) {
					t.Fatalf("P15: %q, %d, %v behind %d", text, now, err, state)
				}
				got, state = got+string(text), now
				text, state, _ = b.Read(2, 99)
				got += string(text)
				carry(t, b, a)
			}
			if want := strings.Repeat(digits, 4)[:min(max(keep, 0), 40)]; got != want || state != api.Reset {
				t.Errorf("P20: keep %d: %q, state %d, want %q", keep, got, state, want)
			}
			sends(t, a)
			sends(t, b)
		}
	}
}

// All bytes that streams can have, given up at some time but for some of them, over a network that is bad and becomes fair.
func TestP17StreamsThatWereGivenUp(t *testing.T) {
	for i, c := range extremes() {
		for seed := range 3 {
			x := plainTalk(t, uint64(8*i+seed), c)
			x.full()
			if seed%2 == 0 {
				x.reads = sixteen
			}
			for k := range 8 {
				x.giveUp(x.random.IntN(2), k, x.random.IntN(3000)-300)
				for range x.random.IntN(6) {
					x.bad(30 * (seed % 3))
				}
				x.giveUp(x.random.IntN(2), x.random.IntN(8), x.random.IntN(2100))
			}
			x.way = [2][][]byte{}
			x.ends(seed)
		}
	}
}

// A stream that used up what was granted of all makes room for others when it is given up.
func TestP17RoomOfStreamsThatWereGivenUp(t *testing.T) {
	for i, c := range extremes() {
		for order := range 3 {
			x := modelTalk(t, uint64(i), c)
			x.write(0, 0, bytes.Repeat([]byte("a"), 2048))
			x.write(0, 1, bytes.Repeat([]byte("b"), 2048))
			x.write(0, 2, bytes.Repeat([]byte("c"), 300))
			x.end(0, 2)
			x.sendNow(0)
			x.way = [2][][]byte{}
			x.giveUp(0, 0, 0)
			x.giveUp(0, 1, 10)
			x.ends(order)
		}
	}
}
