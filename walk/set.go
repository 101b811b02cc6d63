package walk

import (
	"iter"
	"slices"

	"tithing/api"
)

// set is a set of places: bit p tells whether it has the place p.
type set int

// sets is how many sets of places there are.
const sets = 1 << api.MaxWalkPlaces

func setOf(places ...int) set {
	var s set
	for _, place := range places {
		s |= 1 << place
	}
	return s
}

// all yields the places of the set, rising.
func (s set) all() iter.Seq[int] {
	return func(yield func(int) bool) {
		for place := range api.MaxWalkPlaces {
			if s&setOf(place) != 0 && !yield(place) {
				return
			}
		}
	}
}

func (s set) list() []int { return slices.Collect(s.all()) }

// parts yields those subsets of the set that have its first place.
func (s set) parts() iter.Seq[set] {
	return func(yield func(set) bool) {
		first := s & -s
		rest := s &^ first
		for more := rest; yield(first|more) && more != 0; {
			more = (more - 1) & rest
		}
	}
}
