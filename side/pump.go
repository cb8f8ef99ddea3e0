package side

import "sync"

// talker is the goroutine that alone touches a side while two talk.
type talker struct {
	side  *Side
	begin chan struct{} // a tick begins
	sent  chan [][]byte // what the side sends in it
	came  chan [][]byte // what the other side has sent in it
}

func newTalker(s *Side) talker {
	return talker{
		side:  s,
		begin: make(chan struct{}),
		sent:  make(chan [][]byte),
		came:  make(chan [][]byte),
	}
}

// talk goes on, tick by tick, until end is closed.
func (x talker) talk(end <-chan struct{}) {
	for {
		select {
		case <-end:
			return
		case <-x.begin:
			x.tick()
		}
	}
}

func (x talker) tick() {
	x.side.Tick()
	x.sent <- x.side.Packets()
	for _, b := range <-x.came {
		_ = x.side.Receive(b) // the side itself knows what an error means to it
	}
}

// Pump lets two sides talk; how many ticks it took (P22).
func Pump(a *Side, b *Side, ticks int) int {
	if a == b {
		return 0
	}
	x, y := newTalker(a), newTalker(b)
	end := make(chan struct{})
	var both sync.WaitGroup
	for _, t := range []talker{x, y} {
		both.Add(1)
		go func() {
			defer both.Done()
			t.talk(end)
		}()
	}
	n := carry(x, y, ticks)
	close(end)
	both.Wait()
	return n
}

// carry hands each talker what the other sends, up to a tick in which neither sends anything.
func carry(x talker, y talker, ticks int) int {
	for n := range ticks {
		x.begin <- struct{}{}
		y.begin <- struct{}{}
		fromX, fromY := <-x.sent, <-y.sent
		x.came <- fromY
		y.came <- fromX
		if len(fromX)+len(fromY) == 0 {
			return n + 1
		}
	}
	return max(ticks, 0)
}
