package mediawire_test

import (
	"fmt"
	"math/rand/v2"
	"slices"
	"testing"

	"mediawire/api"
)

// recorder keeps all that its side sends and tells.
type recorder struct {
	plainCaller
	log *[]string
}

func (r recorder) packets() [][]byte {
	l := r.plainCaller.packets()
	for _, b := range l {
		*r.log = append(*r.log, string(b))
	}
	return l
}

func (r recorder) read(k int, most int) ([]byte, int) {
	b, state := r.plainCaller.read(k, most)
	*r.log = append(*r.log, string(b))
	return b, state
}

func (r recorder) datagrams() []api.Message {
	l := r.plainCaller.datagrams()
	*r.log = append(*r.log, fmt.Sprint(l))
	return l
}

// TestP2SameCallsSamePackets: what is sent, and sent again, hangs on the calls alone.
func TestP2SameCallsSamePackets(t *testing.T) {
	run := func(seed uint64) []string {
		var log []string
		random := rand.New(rand.NewPCG(2, seed))
		c := randomConfig(random)
		x := newTalk(t, seed, c, func() caller { return recorder{plainCaller{t, newSide(t, c)}, &log} })
		for range 40 {
			x.write(random.IntN(2), random.IntN(8), randomText(random, 400))
			if random.IntN(10) == 0 {
				x.end(random.IntN(2), random.IntN(8))
			}
			if random.IntN(10) == 0 {
				x.giveUp(random.IntN(2), random.IntN(8), random.IntN(500))
			}
			for range random.IntN(6) {
				x.message(random.IntN(2), x.tick+uint64(random.IntN(6)), randomText(random, c.MTU-40))
			}
			x.bad(40)
		}
		return log
	}
	for seed := range uint64(40) {
		first := run(seed)
		for range 3 {
			if !slices.Equal(run(seed), first) {
				t.Fatalf("P2: talk %d: the same calls, and other packets", seed)
			}
		}
	}
}
