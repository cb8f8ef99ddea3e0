package numbers

import (
	"math"
	"math/rand/v2"
	"testing"
)

func TestHole(t *testing.T) {
	s := NewSet(3)
	ask := func(end, lo, hi uint64) {
		t.Helper()
		if x, y := s.Hole(end); x != lo || y != hi {
			t.Errorf("Hole(%d) = %d, %d, want %d, %d", end, x, y, lo, hi)
		}
	}
	ask(0, 0, 0)
	ask(7, 0, 7)
	s.Add(3, 5)
	ask(7, 0, 3)
	ask(2, 0, 2)
	s.Add(0, 2)
	ask(7, 6, 7)
	ask(6, 6, 6)
	ask(5, 5, 5)
	s.Add(9, 9)
	ask(20, 6, 9)
	ask(8, 6, 8)
	s.Add(6, 8)
	ask(20, 10, 20)
	s.Add(12, math.MaxUint64)
	ask(math.MaxUint64, 10, 12)
	s.Add(10, 11)
	ask(math.MaxUint64, math.MaxUint64, math.MaxUint64)
}

func TestHoleBehindTheFloor(t *testing.T) {
	s := NewSet(1)
	s.Add(1, 2)
	s.Add(5, 6)
	if lo, hi := s.Hole(9); lo != 3 || hi != 5 {
		t.Errorf("Hole(9) = %d, %d: the floor is %d", lo, hi, s.Floor())
	}
}

func TestHoleAgainstNumbersOneByOne(t *testing.T) {
	for seed := range uint64(300) {
		random := rand.New(rand.NewPCG(6, seed))
		s := NewSet(100)
		for range random.IntN(12) {
			lo := random.Uint64N(40)
			s.Add(lo, lo+random.Uint64N(6))
		}
		for end := range uint64(50) {
			lo := uint64(0)
			for lo < end && s.Has(lo) {
				lo++
			}
			hi := lo
			for hi < end && !s.Has(hi) {
				hi++
			}
			if x, y := s.Hole(end); x != lo || y != hi {
				t.Fatalf("Hole(%d) = %d, %d, want %d, %d", end, x, y, lo, hi)
			}
		}
	}
}

func TestClone(t *testing.T) {
	s := NewSet(2)
	s.Add(1, 2)
	s.Add(6, 6)
	c := s.Clone()
	s.Add(4, 4)
	c.Add(3, 3)
	if c.Has(4) || s.Has(7) || !c.Has(3) || !c.Has(6) || c.Floor() != 0 || s.Floor() != 3 {
		t.Errorf("a clone and what it was made of are one: %+v, %+v", s, c)
	}
}
