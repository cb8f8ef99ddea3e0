package mediawire_test

import (
	"fmt"
	"math"
	"math/rand/v2"
	"reflect"
	"testing"

	"mediawire/api"
	"mediawire/mediawire"
)

const top = math.MaxUint64

func down(s *mediawire.Set) []api.Range {
	var l []api.Range
	for r := range s.Down() {
		l = append(l, r)
	}
	return l
}

func told(s *mediawire.Set) string { return fmt.Sprint(down(s), s.Floor()) }

func added(most int, ranges ...api.Range) *mediawire.Set {
	s := mediawire.NewSet(most)
	for _, r := range ranges {
		s.Add(r.Lo, r.Hi)
	}
	return s
}

func TestP6ExampleOfTheDocument(t *testing.T) {
	s := added(3, api.Range{Lo: 5, Hi: 6}, api.Range{Lo: 9, Hi: 9}, api.Range{Lo: 1, Hi: 2}, api.Range{Lo: 20, Hi: 30})
	if got := told(s); got != "[{20 30} {9 9} {5 6}] 3" {
		t.Errorf("P6: %s", got)
	}
}

func TestP6Add(t *testing.T) {
	for _, c := range []struct {
		most int
		add  []api.Range
		want string
	}{
		{3, nil, "[] 0"},
		{3, []api.Range{{Lo: 0, Hi: 0}}, "[{0 0}] 0"},
		{3, []api.Range{{Lo: 4, Hi: 3}}, "[] 0"},
		{3, []api.Range{{Lo: top, Hi: 0}}, "[] 0"},
		// What touches becomes one; with a number between it does not.
		{3, []api.Range{{Lo: 5, Hi: 6}, {Lo: 7, Hi: 8}}, "[{5 8}] 0"},
		{3, []api.Range{{Lo: 7, Hi: 8}, {Lo: 5, Hi: 6}}, "[{5 8}] 0"},
		{3, []api.Range{{Lo: 5, Hi: 6}, {Lo: 8, Hi: 8}}, "[{8 8} {5 6}] 0"},
		{3, []api.Range{{Lo: 8, Hi: 8}, {Lo: 5, Hi: 6}}, "[{8 8} {5 6}] 0"},
		{3, []api.Range{{Lo: 5, Hi: 6}, {Lo: 8, Hi: 8}, {Lo: 7, Hi: 7}}, "[{5 8}] 0"},
		{3, []api.Range{{Lo: 1, Hi: 1}, {Lo: 3, Hi: 3}, {Lo: 5, Hi: 5}, {Lo: 2, Hi: 4}}, "[{1 5}] 0"},
		{3, []api.Range{{Lo: 1, Hi: 1}, {Lo: 5, Hi: 5}, {Lo: 9, Hi: 9}, {Lo: 3, Hi: 7}}, "[{9 9} {3 7} {1 1}] 0"},
		{3, []api.Range{{Lo: 5, Hi: 9}, {Lo: 6, Hi: 7}}, "[{5 9}] 0"},
		{3, []api.Range{{Lo: 5, Hi: 9}, {Lo: 5, Hi: 9}}, "[{5 9}] 0"},
		{3, []api.Range{{Lo: 5, Hi: 9}, {Lo: 7, Hi: 12}}, "[{5 12}] 0"},
		{3, []api.Range{{Lo: 5, Hi: 9}, {Lo: 2, Hi: 7}}, "[{2 9}] 0"},
		// A full set into which a range melts loses nothing.
		{2, []api.Range{{Lo: 1, Hi: 1}, {Lo: 9, Hi: 9}, {Lo: 10, Hi: 10}}, "[{9 10} {1 1}] 0"},
		// The lowest range goes, be it the one that came.
		{2, []api.Range{{Lo: 1, Hi: 2}, {Lo: 5, Hi: 6}, {Lo: 9, Hi: 9}}, "[{9 9} {5 6}] 3"},
		{2, []api.Range{{Lo: 5, Hi: 6}, {Lo: 9, Hi: 9}, {Lo: 1, Hi: 2}}, "[{9 9} {5 6}] 3"},
		{2, []api.Range{{Lo: 5, Hi: 6}, {Lo: 9, Hi: 9}, {Lo: 0, Hi: 0}}, "[{9 9} {5 6}] 1"},
		// What lies below the floor is left out; at the floor it is not.
		{1, []api.Range{{Lo: 5, Hi: 6}, {Lo: 9, Hi: 9}, {Lo: 1, Hi: 6}}, "[{9 9}] 7"},
		{1, []api.Range{{Lo: 5, Hi: 6}, {Lo: 9, Hi: 9}, {Lo: 1, Hi: 7}}, "[{9 9}] 8"},
		{1, []api.Range{{Lo: 5, Hi: 6}, {Lo: 9, Hi: 9}, {Lo: 1, Hi: 8}}, "[{7 9}] 7"},
		{1, []api.Range{{Lo: 5, Hi: 6}, {Lo: 9, Hi: 9}, {Lo: 0, Hi: 20}}, "[{7 20}] 7"},
		// One range, if none or fewer are asked for.
		{1, []api.Range{{Lo: 3, Hi: 3}, {Lo: 7, Hi: 7}}, "[{7 7}] 4"},
		{0, []api.Range{{Lo: 3, Hi: 3}, {Lo: 7, Hi: 7}}, "[{7 7}] 4"},
		{-1, []api.Range{{Lo: 3, Hi: 3}, {Lo: 7, Hi: 7}}, "[{7 7}] 4"},
		{math.MinInt, []api.Range{{Lo: 3, Hi: 3}, {Lo: 7, Hi: 7}}, "[{7 7}] 4"},
		{math.MaxInt, []api.Range{{Lo: 3, Hi: 3}, {Lo: 7, Hi: 7}}, "[{7 7} {3 3}] 0"},
		// The greatest numbers.
		{3, []api.Range{{Lo: top, Hi: top}}, "[{18446744073709551615 18446744073709551615}] 0"},
		{3, []api.Range{{Lo: top, Hi: top}, {Lo: 0, Hi: 0}}, "[{18446744073709551615 18446744073709551615} {0 0}] 0"},
		{3, []api.Range{{Lo: 0, Hi: 0}, {Lo: top, Hi: top}}, "[{18446744073709551615 18446744073709551615} {0 0}] 0"},
		{3, []api.Range{{Lo: top, Hi: top}, {Lo: top - 1, Hi: top - 1}}, "[{18446744073709551614 18446744073709551615}] 0"},
		{3, []api.Range{{Lo: top - 1, Hi: top - 1}, {Lo: top, Hi: top}}, "[{18446744073709551614 18446744073709551615}] 0"},
		{3, []api.Range{{Lo: top - 2, Hi: top - 2}, {Lo: top, Hi: top}}, "[{18446744073709551615 18446744073709551615} {18446744073709551613 18446744073709551613}] 0"},
		{1, []api.Range{{Lo: top - 2, Hi: top - 2}, {Lo: top, Hi: top}}, "[{18446744073709551615 18446744073709551615}] 18446744073709551614"},
		{1, []api.Range{{Lo: 0, Hi: top}, {Lo: 5, Hi: 5}, {Lo: top, Hi: top}, {Lo: 0, Hi: 0}}, "[{0 18446744073709551615}] 0"},
		{3, []api.Range{{Lo: 3, Hi: 3}, {Lo: top - 5, Hi: top - 5}, {Lo: 0, Hi: top}}, "[{0 18446744073709551615}] 0"},
	} {
		if got := told(added(c.most, c.add...)); got != c.want {
			t.Errorf("P6: a set of %d ranges behind Add of %v: %s, want %s", c.most, c.add, got, c.want)
		}
	}
}

// model is a set of the numbers from base on, one by one.
type model struct {
	most  int
	base  uint64
	floor int
	in    [40]bool
}

func (m *model) add(lo, hi int) {
	for n := max(lo, m.floor); n <= hi; n++ {
		m.in[n] = true
	}
	if l := m.down(); len(l) > m.most {
		lowest := l[len(l)-1]
		m.floor = int(lowest.Hi-m.base) + 1
		for n := range m.floor {
			m.in[n] = false
		}
	}
}

func (m *model) down() []api.Range {
	var l []api.Range
	for n := len(m.in) - 1; n >= 0; n-- {
		if !m.in[n] {
			continue
		}
		hi := n
		for n > 0 && m.in[n-1] {
			n--
		}
		l = append(l, api.Range{Lo: m.base + uint64(n), Hi: m.base + uint64(hi)})
	}
	return l
}

func (m *model) check(s *mediawire.Set) error {
	floor := uint64(0)
	if m.floor > 0 {
		floor = m.base + uint64(m.floor)
	}
	if got, want := down(s), m.down(); !reflect.DeepEqual(got, want) || s.Floor() != floor {
		return fmt.Errorf("%v, floor %d, want %v, floor %d", got, s.Floor(), want, floor)
	}
	for n, in := range m.in {
		if s.Has(m.base+uint64(n)) != (in || n < m.floor) {
			return fmt.Errorf("Has(%d) of %v, floor %d", m.base+uint64(n), down(s), s.Floor())
		}
	}
	return nil
}

func TestP6P7AgainstNumbersOneByOne(t *testing.T) {
	random := rand.New(rand.NewPCG(6, 7))
	for round := range 3000 {
		m := &model{most: 1 + round%8}
		if round%2 == 1 {
			m.base = top - uint64(len(m.in)-1)
		}
		s := mediawire.NewSet(m.most)
		for range 40 {
			lo := random.IntN(len(m.in))
			hi := min(lo+random.IntN(4)-1, len(m.in)-1)
			if hi < 0 {
				continue
			}
			m.add(lo, hi)
			s.Add(m.base+uint64(lo), m.base+uint64(hi))
			if err := m.check(s); err != nil {
				t.Fatalf("P6, P7: a set of %d ranges behind Add(%d, %d): %v", m.most, m.base+uint64(lo), m.base+uint64(hi), err)
			}
		}
	}
}

func TestP7Has(t *testing.T) {
	s := added(2, api.Range{Lo: 3, Hi: 4}, api.Range{Lo: 10, Hi: 12}, api.Range{Lo: top, Hi: top})
	for _, c := range []struct {
		n  uint64
		in bool
	}{{0, true}, {2, true}, {3, true}, {4, true}, {5, false}, {9, false}, {10, true}, {11, true}, {12, true}, {13, false}, {top - 1, false}, {top, true}} {
		if s.Has(c.n) != c.in {
			t.Errorf("P7: Has(%d) = %v", c.n, !c.in)
		}
	}
	for _, n := range []uint64{0, 1, top} {
		if mediawire.NewSet(3).Has(n) {
			t.Errorf("P7: an empty set has %d", n)
		}
	}
}

func TestP7WalkIsLeftAndBegunAnew(t *testing.T) {
	s := added(5, api.Range{Lo: 1, Hi: 1}, api.Range{Lo: 3, Hi: 3}, api.Range{Lo: 5, Hi: 5}, api.Range{Lo: 7, Hi: 7})
	walk := s.Down()
	all := []api.Range{{Lo: 7, Hi: 7}, {Lo: 5, Hi: 5}, {Lo: 3, Hi: 3}, {Lo: 1, Hi: 1}}
	for left := 1; left <= len(all); left++ {
		var l []api.Range
		for r := range walk {
			l = append(l, r)
			if len(l) == left {
				break
			}
		}
		if !reflect.DeepEqual(l, all[:left]) {
			t.Errorf("P7: a walk left behind %d: %v", left, l)
		}
	}
	calls := 0
	walk(func(api.Range) bool { calls++; return false })
	if calls != 1 {
		t.Errorf("P7: a walk that is told to end goes on: %d ranges", calls)
	}
	for a := range walk { // one in the other
		n := 0
		for range walk {
			n++
		}
		if n != 4 || a != all[0] {
			t.Errorf("P7: a walk within a walk: %d ranges, %v", n, a)
		}
		break
	}
	s.Add(9, 9)
	if l := told(s); l != "[{9 9} {7 7} {5 5} {3 3} {1 1}] 0" {
		t.Errorf("P7: behind the walks: %s", l)
	}
	n := 0
	for range walk {
		n++
	}
	if n != 5 {
		t.Errorf("P7: a walk begun anew behind an Add: %d ranges", n)
	}
}

func TestP7WalkOfAnEmptySet(t *testing.T) {
	walk := mediawire.NewSet(2).Down()
	if walk == nil {
		t.Fatal("P7: no walk")
	}
	for r := range walk {
		t.Errorf("P7: an empty set has %v", r)
	}
}
