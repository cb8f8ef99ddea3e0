// Package numbers: sets of numbers (P6, P7).
package numbers

import (
	"slices"
	"sort"

	"mediawire/api"
)

// Set is a set of numbers, as ranges.
type Set struct {
	most   int         // as it was asked for: bound says what it means
	floor  uint64      // all below it counts as in the set
	ranges []api.Range // rising, with a number or more between
}

// NewSet makes a set of so many ranges at the most (P6).
func NewSet(most int) Set { return Set{most: most} }

// bound is asked where it is needed, so that a Set that NewSet did not make has one range too.
func (s *Set) bound() int { return max(s.most, 1) }

// Add: the numbers from lo to hi are in it (P6).
func (s *Set) Add(lo uint64, hi uint64) {
	lo = max(lo, s.floor)
	if lo > hi {
		return
	}
	s.join(api.Range{Lo: lo, Hi: hi})
	if len(s.ranges) > s.bound() {
		s.dropLowest()
	}
}

// join makes one range of r and all that it touches: those from first to ahead of end.
func (s *Set) join(r api.Range) {
	first := sort.Search(len(s.ranges), func(i int) bool { return !apart(s.ranges[i].Hi, r.Lo) })
	end := sort.Search(len(s.ranges), func(i int) bool { return apart(r.Hi, s.ranges[i].Lo) })
	if first < end {
		r.Lo = min(r.Lo, s.ranges[first].Lo)
		r.Hi = max(r.Hi, s.ranges[end-1].Hi)
	}
	s.ranges = slices.Replace(s.ranges, first, end, r)
}

// apart: a number or more lies between. (Not below+1 < above: the greatest number has none above it.)
func apart(below uint64, above uint64) bool { return below < above && above-below > 1 }

// dropLowest is called where another range lies above the lowest one: its Hi is not the greatest number.
func (s *Set) dropLowest() {
	s.floor = s.ranges[0].Hi + 1
	s.ranges = slices.Delete(s.ranges, 0, 1)
}

// Has: is it in it (P7)?
func (s *Set) Has(n uint64) bool {
	i := sort.Search(len(s.ranges), func(i int) bool { return s.ranges[i].Hi >= n })
	return n < s.floor || i < len(s.ranges) && s.ranges[i].Lo <= n
}

// Hole: the lowest numbers below end that are not in it: from lo on, ahead of hi. (If there are none, lo is not below hi.)
func (s *Set) Hole(end uint64) (lo uint64, hi uint64) {
	lo = s.floor
	for _, r := range s.ranges {
		if r.Lo > lo {
			return lo, min(r.Lo, end)
		}
		if r.Hi >= end {
			return end, end
		}
		lo = r.Hi + 1
	}
	return lo, end
}

// Clone: a set of its own, with the same numbers.
func (s *Set) Clone() Set {
	return Set{most: s.most, floor: s.floor, ranges: slices.Clone(s.ranges)}
}

// Floor: what lies below counts as in it (P7).
func (s *Set) Floor() uint64 { return s.floor }

// Down walks through the ranges, from the last one on (P7).
func (s *Set) Down() func(yield func(api.Range) bool) {
	return func(yield func(api.Range) bool) {
		// A walk goes over the ranges as they are when it begins: the loop over it may call Add.
		for _, r := range slices.Backward(slices.Clone(s.ranges)) {
			if !yield(r) {
				return
			}
		}
	}
}
