package mediawire_test

import (
	"fmt"
	"math"
	"math/rand/v2"
	"reflect"
	"runtime"
	"strings"
	"testing"
	"time"

	"mediawire/api"
	"mediawire/mediawire"
)

// byHand: what Pump does, call by call (P22).
func byHand(a, b *mediawire.Conn, ticks int) int {
	for n := range ticks {
		a.Tick()
		b.Tick()
		fromA, fromB := a.Packets(), b.Packets()
		for _, p := range fromA {
			b.Receive(p)
		}
		for _, p := range fromB {
			a.Receive(p)
		}
		if len(fromA)+len(fromB) == 0 {
			return n + 1
		}
	}
	return max(ticks, 0)
}

// alike: both sides answer all calls alike from now on.
func alike(t testing.TB, x, y *mediawire.Conn) {
	t.Helper()
	for round := range 10 {
		if x.Err() != y.Err() {
			t.Fatalf("P22: Err = %v, by hand %v", x.Err(), y.Err())
		}
		if l, m := fmt.Sprint(x.Datagrams()), fmt.Sprint(y.Datagrams()); l != m {
			t.Fatalf("P22: Datagrams = %s, by hand %s", l, m)
		}
		for k := range 8 {
			b, state, err := x.Read(k, 40)
			c, want, bad := y.Read(k, 40)
			if string(b) != string(c) || state != want || err != bad {
				t.Fatalf("P22: Read(%d) = %q, %d, %v, by hand %q, %d, %v", k, b, state, err, c, want, bad)
			}
		}
		if l, m := x.Packets(), y.Packets(); !reflect.DeepEqual(l, m) {
			t.Fatalf("P22: behind %d ticks Packets = %x, by hand %x", 3*round, l, m)
		}
		ticks(x, 3)
		ticks(y, 3)
	}
}

// pumped: the two sides that set makes talk for so many ticks at the most, and two others by hand: they are alike.
func pumped(t testing.TB, c api.Config, set func(a, b *mediawire.Conn), most int) int {
	t.Helper()
	a, b, x, y := newSide(t, c), newSide(t, c), newSide(t, c), newSide(t, c)
	set(a, b)
	set(x, y)
	n := mediawire.Pump(a, b, most)
	if want := byHand(x, y, most); n != want {
		t.Errorf("P22: Pump of %d ticks = %d, by hand %d", most, n, want)
	}
	alike(t, a, x)
	alike(t, b, y)
	return n
}

func TestP22NoTicks(t *testing.T) {
	set := func(a, b *mediawire.Conn) {
		send(t, a, 0, "abc")
		waits(t, b, 1, 1, "d")
	}
	for _, n := range []int{0, -1, -4, math.MinInt} {
		if got := pumped(t, small, set, n); got != 0 {
			t.Errorf("P22: Pump of %d ticks = %d", n, got)
		}
	}
}

func TestP22OneSideAlone(t *testing.T) {
	a, b := newSide(t, small), newSide(t, small)
	send(t, a, 0, "abc")
	send(t, b, 0, "abc")
	twin := *a // another Conn, but no other side
	for _, x := range []*mediawire.Conn{a, &twin} {
		if n := mediawire.Pump(a, x, 9); n != 0 {
			t.Errorf("P22: Pump of a side with itself = %d", n)
		}
	}
	if n := mediawire.Pump(nil, nil, 9); n != 0 {
		t.Errorf("P22: Pump of no sides = %d", n)
	}
	zero := &mediawire.Conn{}
	if n := mediawire.Pump(zero, zero, 9); n != 0 {
		t.Errorf("P22: Pump of a side that New did not make with itself = %d", n)
	}
	alike(t, a, b)
}

func TestP22NothingToSay(t *testing.T) {
	nothing := func(a, b *mediawire.Conn) {}
	for _, n := range []int{1, 2, 50, math.MaxInt} {
		if got := pumped(t, small, nothing, n); got != 1 {
			t.Errorf("P22: Pump of %d ticks = %d", n, got)
		}
	}
	if n := mediawire.Pump(nil, &mediawire.Conn{}, 5); n != 1 {
		t.Errorf("P22: Pump of sides that New did not make = %d", n)
	}
}

// A byte: the first tick it is sent, the second it is answered, the third nothing is sent.
func TestP22HowManyTicks(t *testing.T) {
	set := func(a, b *mediawire.Conn) { send(t, a, 0, "x") }
	for most, want := range []int{0, 1, 2, 3, 3, 3} {
		if got := pumped(t, small, set, most); got != want {
			t.Errorf("P22: Pump of %d ticks = %d, want %d", most, got, want)
		}
	}
	set = func(a, b *mediawire.Conn) { send(t, b, 0, "x") }
	if got := pumped(t, small, set, 50); got != 3 {
		t.Errorf("P22: Pump = %d", got)
	}
	set = func(a, b *mediawire.Conn) {
		send(t, a, 0, "x")
		send(t, b, 0, "x")
	}
	if got := pumped(t, small, set, 50); got != 3 {
		t.Errorf("P22: Pump = %d", got)
	}
}

// The ticks are those of both sides, ahead of their packets.
func TestP22BothTick(t *testing.T) {
	a, b := newSide(t, small), newSide(t, small)
	waits(t, a, 1, 0, "late")
	waits(t, a, 2, 1, "in time")
	waits(t, b, 1, 0, "late")
	waits(t, b, 2, 1, "in time")
	if n := mediawire.Pump(a, b, 1); n != 1 {
		t.Errorf("P22: Pump = %d", n)
	}
	if x, y := handed(a), handed(b); x != "[{2 in time}]" || y != "[{2 in time}]" {
		t.Errorf("P22: %s, %s", x, y)
	}
	b.Tick() // b's tick is above a's: what a sends in time comes late
	waits(t, a, 3, 2, "late")
	waits(t, a, 4, 3, "in time")
	mediawire.Pump(a, b, 1)
	if y := handed(b); y != "[{4 in time}]" {
		t.Errorf("P22: %s", y)
	}
}

func TestP22BothDirections(t *testing.T) {
	set := func(a, b *mediawire.Conn) {
		for k := range 8 {
			send(t, a, k, strings.Repeat("a", 10*k))
			send(t, b, k, strings.Repeat("b", 100-10*k))
		}
		finish(t, a, 3)
		finish(t, b, 4)
		give(t, a, 5, 20)
		give(t, b, 6, 0)
		for id := range uint64(10) {
			waits(t, a, id, id%3, "from a")
			waits(t, b, id, 9, "from b")
		}
	}
	for _, c := range append(extremes(), small, wide) {
		for _, most := range []int{1, 2, 3, 4, 100} {
			if n := pumped(t, c, set, most); n > 30 {
				t.Errorf("P22: %+v: %d ticks", c, n)
			}
		}
	}
	a, b := newSide(t, wide), newSide(t, wide)
	set(a, b)
	mediawire.Pump(a, b, 100)
	reads(t, b, 7, 99, strings.Repeat("a", 70), api.Open)
	reads(t, b, 3, 99, strings.Repeat("a", 30), api.Finished)
	reads(t, b, 5, 99, strings.Repeat("a", 20), api.Reset)
	reads(t, a, 4, 99, strings.Repeat("b", 60), api.Finished)
	reads(t, a, 6, 99, "", api.Reset)
	if x, y := len(a.Datagrams()), len(b.Datagrams()); x != 10 || y != 6 {
		t.Errorf("P22: %d and %d datagrams", x, y)
	}
}

func TestP22ASideThatCloses(t *testing.T) {
	for i, set := range []func(a, b *mediawire.Conn){
		func(a, b *mediawire.Conn) { a.Close() },
		func(a, b *mediawire.Conn) { b.Close() },
		func(a, b *mediawire.Conn) { a.Receive(sealed(t, "00ff")) },
	} {
		both := func(a, b *mediawire.Conn) {
			send(t, a, 0, "abc")
			send(t, b, 0, "abc")
			set(a, b)
		}
		if n := pumped(t, small, both, 50); n != 2 {
			t.Errorf("P22: row %d: Pump = %d", i, n)
		}
	}
	both := func(a, b *mediawire.Conn) {
		a.Close()
		b.Close()
	}
	if n := pumped(t, small, both, 50); n != 2 {
		t.Errorf("P22: Pump = %d", n)
	}
	parted := func(a, b *mediawire.Conn) {
		both(a, b)
		a.Packets()
		b.Packets()
	}
	if n := pumped(t, small, parted, 50); n != 1 {
		t.Errorf("P22: Pump = %d", n)
	}
	a := newSide(t, small)
	send(t, a, 0, "abc")
	if n := mediawire.Pump(a, nil, 50); n != 2 || a.Err() != nil { // what nobody takes is sent once, then it is on its way
		t.Errorf("P22: Pump = %d, %v", n, a.Err())
	}
}

// Errors are passed over: what comes behind one is still handed to the side.
func TestP22Errors(t *testing.T) {
	a := newSide(t, api.Config{MTU: 64, Window: 4096, Total: 4096})
	b := newSide(t, api.Config{MTU: 64, Window: 16, Total: 16}) // not as P8 has it: a sends too much
	send(t, a, 0, strings.Repeat("x", 200))
	if n := mediawire.Pump(a, b, 50); n != 3 {
		t.Errorf("P22: Pump = %d", n)
	}
	if a.Err() != api.ErrPeer || b.Err() != api.ErrFlow {
		t.Errorf("P22: %v, %v", a.Err(), b.Err())
	}
}

// random sides, in the midst of a talk of which some packets were lost, and Pump again and again.
func TestP22AsByHand(t *testing.T) {
	total := 0
	for seed := range uint64(150) {
		c := randomConfig(rand.New(rand.NewPCG(21, seed)))
		set := func(a, b *mediawire.Conn) {
			random := rand.New(rand.NewPCG(22, seed))
			for id := range 20 {
				for _, x := range []*mediawire.Conn{a, b} {
					x.Send(random.IntN(8), randomText(random, 200))
					if random.IntN(6) == 0 {
						x.Finish(random.IntN(8))
					}
					if random.IntN(6) == 0 {
						x.Reset(random.IntN(8), random.IntN(200))
					}
					x.Datagram(uint64(id), uint64(random.IntN(30)), randomText(random, 24))
					x.Read(random.IntN(8), 50)
					if random.IntN(4) == 0 {
						x.Tick()
						x.Packets() // lost
					}
					if random.IntN(400) == 0 {
						x.Close()
					}
				}
				if random.IntN(3) == 0 {
					byHand(a, b, random.IntN(4))
				}
			}
		}
		total += pumped(t, c, set, int(seed)%40)
	}
	if total < 500 {
		t.Errorf("only %d ticks: the test asks for too little", total)
	}
}

// All that Pump begins has ended when it answers.
func TestP22LeavesNothingRunning(t *testing.T) {
	before := runtime.NumGoroutine()
	for i := range 200 {
		a, b := newSide(t, small), newSide(t, small)
		send(t, a, 0, "abc")
		mediawire.Pump(a, b, i%5)
		mediawire.Pump(a, a, 3)
		mediawire.Pump(nil, b, 3)
	}
	for range 100 { // a goroutine that has told its end may still be counted for a moment
		if runtime.NumGoroutine() <= before {
			return
		}
		time.Sleep(time.Millisecond)
	}
	t.Errorf("P22: %d goroutines, %d ahead of Pump", runtime.NumGoroutine(), before)
}
