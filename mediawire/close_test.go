package mediawire_test

import (
	"errors"
	"reflect"
	"strings"
	"testing"

	"mediawire/api"
	"mediawire/mediawire"
)

func closeFrame(limit uint64) api.Frame { return api.Frame{Kind: api.Close, Limit: limit} }

// isClosed: every call says so, whatever it is given; nothing comes, and nothing goes.
func isClosed(t testing.TB, c *mediawire.Conn, why error) {
	t.Helper()
	for i, err := range []error{
		c.Send(0, []byte("x")), c.Send(8, make([]byte, 3000)), c.Finish(0), c.Finish(-1), c.Reset(0, 0), c.Reset(9, 0),
		c.Datagram(1, most, nil), c.Datagram(most+1, 0, make([]byte, 500)), c.Close(),
		c.Receive(nil), c.Receive(encoded(t, packet(99, closeFrame(3)))), c.Receive(encoded(t, packet(98, data(0, 0, "x", true)))), c.Receive(sealed(t, "00ff")),
	} {
		if err != api.ErrClosed {
			t.Errorf("P21: row %d: a side that is closed: %v", i, err)
		}
	}
	for _, k := range []int{0, 7, 8} {
		if b, state, err := c.Read(k, 9); b != nil || state != 0 || err != api.ErrClosed {
			t.Errorf("P15, P21: Read(%d) = %q, %d, %v", k, b, state, err)
		}
	}
	for range 20 {
		c.Tick()
		if l := c.Packets(); l != nil {
			t.Errorf("P21: a side that has parted sends %x", l)
		}
	}
	if c.Err() != why || c.Datagrams() != nil {
		t.Errorf("P21: Err = %v, want %v", c.Err(), why)
	}
}

func TestP21Close(t *testing.T) {
	c := newSide(t, small)
	send(t, c, 0, strings.Repeat("x", 100))
	sends(t, c, packet(0, data(0, 0, strings.Repeat("x", 20), false)))
	send(t, c, 1, "unsent")
	waits(t, c, 1, 99, "unsent")
	give(t, c, 2, 0)
	come(t, c, 0, data(3, 0, "unread", true), datagram(5, 0, "last"))
	if c.Err() != nil {
		t.Errorf("P21: Err of a side that is open: %v", c.Err())
	}
	if err := c.Close(); err != nil {
		t.Errorf("P21: Close = %v", err)
	}
	if err := c.Close(); err != api.ErrClosed || c.Err() != api.ErrClosed {
		t.Errorf("P21: Close once more = %v, Err = %v", err, c.Err())
	}
	c.Tick()
	sends(t, c, packet(1, closeFrame(0)))
	sends(t, c)
	if got := handed(c); got != "[{5 last}]" {
		t.Errorf("P21: %s", got)
	}
	isClosed(t, c, api.ErrClosed)
}

// The Close frame goes at once, even if twelve packets are on their way.
func TestP21CloseOfACrowdedSide(t *testing.T) {
	c := crowded(t)
	if err := c.Close(); err != nil {
		t.Errorf("P21: Close = %v", err)
	}
	sends(t, c, packet(12, closeFrame(0)))
	isClosed(t, c, api.ErrClosed)
}

func TestP21ClosedByAnError(t *testing.T) {
	for _, row := range []struct {
		frame api.Frame
		err   api.Errno
	}{
		{data(1, 21, "", false), api.ErrFlow},
		{data(0, 1, "", true), api.ErrFinal},
		{resetAt(0, 1, 0), api.ErrFinal},
		{ack(one(7)), api.ErrAck},
	} {
		c := newSide(t, small)
		send(t, c, 0, "abc")
		err := c.Receive(encoded(t, packet(0, data(0, 0, "ab", false), datagram(1, 5, "last"), row.frame, datagram(2, 5, "too late"), closeFrame(0))))
		if err != row.err || c.Err() != row.err {
			t.Errorf("P21: Receive = %v, Err = %v, want %v", err, c.Err(), row.err)
		}
		sends(t, c, packet(0, closeFrame(uint64(row.err))))
		if got := handed(c); got != "[{1 last}]" {
			t.Errorf("P21: %s", got)
		}
		isClosed(t, c, row.err)
	}
}

func TestP21ClosedByAFrameThatIsNone(t *testing.T) {
	c := newSide(t, small)
	come(t, c, 0, datagram(1, 5, "last"))
	err := c.Receive(sealed(t, "013001050178"+"ff")) // a datagram, and a frame that is none: nothing of it comes
	var f *api.Fault
	if !errors.As(err, &f) || f.Err != api.ErrFrame || f.At != 6 || c.Err() != api.ErrFrame {
		t.Errorf("P12, P21: Receive = %v, Err = %v", err, c.Err())
	}
	sends(t, c, packet(0, closeFrame(8)))
	if got := handed(c); got != "[{1 last}]" {
		t.Errorf("P21: %s", got)
	}
	isClosed(t, c, api.ErrFrame)
}

func TestP21ClosedByTheOther(t *testing.T) {
	for _, limit := range []uint64{0, 1, 8, 12, 13, 14, most} {
		c := newSide(t, small)
		send(t, c, 0, "abc")
		waits(t, c, 1, 9, "unsent")
		come(t, c, 4, datagram(6, 5, "first"), data(0, 0, "unread", false))
		err := c.Receive(encoded(t, packet(5, datagram(7, 5, "last"), closeFrame(limit), datagram(8, 5, "too late"), data(0, 99, "", false))))
		if err != api.ErrPeer || c.Err() != api.ErrPeer {
			t.Errorf("P21: Receive = %v, Err = %v", err, c.Err())
		}
		if l := c.Packets(); l != nil {
			t.Errorf("P21: a side that the other has closed sends %x", l)
		}
		if got := handed(c); got != "[{6 first} {7 last}]" {
			t.Errorf("P21: %s", got)
		}
		isClosed(t, c, api.ErrPeer)
	}
}

// A packet that came already, is damaged, or lies below the floor closes nothing.
func TestP21CloseFramesThatDoNotCome(t *testing.T) {
	c := newSide(t, small)
	for n := range uint64(9) {
		come(t, c, 10+2*n, api.Frame{Kind: api.Ping})
	}
	come(t, c, 12, closeFrame(0))
	come(t, c, 10, closeFrame(0))
	come(t, c, 3, closeFrame(0))
	b := encoded(t, packet(50, closeFrame(0)))
	b[len(b)-1]++
	if err := c.Receive(b); err != api.ErrSum || c.Err() != nil {
		t.Errorf("P21: Receive = %v, Err = %v", err, c.Err())
	}
	send(t, c, 0, "abc")
	if l := frames(sent(t, c), api.Data); len(l) != 1 {
		t.Errorf("P21: %+v", l)
	}
}

// Whoever closes first, each side knows why in the end, and is told once.
func TestP21FromSideToSide(t *testing.T) {
	a, b := newSide(t, small), newSide(t, small)
	if err := a.Close(); err != nil {
		t.Fatalf("P21: Close = %v", err)
	}
	l := a.Packets()
	if len(l) != 1 || b.Receive(l[0]) != api.ErrPeer {
		t.Fatalf("P21: %x, Err = %v", l, b.Err())
	}
	isClosed(t, a, api.ErrClosed)
	isClosed(t, b, api.ErrPeer)

	a, b = newSide(t, small), newSide(t, small) // both at once
	if a.Close() != nil || b.Close() != nil {
		t.Fatalf("P21: %v, %v", a.Err(), b.Err())
	}
	l, m := a.Packets(), b.Packets()
	if !reflect.DeepEqual(l, m) || len(l) != 1 || a.Receive(m[0]) != api.ErrClosed || b.Receive(l[0]) != api.ErrClosed {
		t.Errorf("P21: %x, %x", l, m)
	}
	isClosed(t, a, api.ErrClosed)
	isClosed(t, b, api.ErrClosed)
}
