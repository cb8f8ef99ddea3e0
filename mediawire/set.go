package mediawire

import (
	"mediawire/api"
	"mediawire/numbers"
)

// Set is a set of numbers, as ranges.
type Set struct {
	set numbers.Set
}

// NewSet makes a set of so many ranges at the most (P6).
func NewSet(most int) *Set { return &Set{set: numbers.NewSet(most)} }

// Add: the numbers from lo to hi are in it (P6).
func (s *Set) Add(lo uint64, hi uint64) {
	if s != nil {
		s.set.Add(lo, hi)
	}
}

// Has: is it in it (P7)?
func (s *Set) Has(n uint64) bool { return s != nil && s.set.Has(n) }

// Floor: what lies below counts as in it (P7).
func (s *Set) Floor() uint64 {
	if s == nil {
		return 0
	}
	return s.set.Floor()
}

// Down walks through the ranges, from the last one on (P7).
func (s *Set) Down() func(yield func(api.Range) bool) {
	if s == nil {
		s = &Set{}
	}
	return s.set.Down()
}
