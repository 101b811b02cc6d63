package sheet

import (
	"iter"
	"math/bits"
	"slices"

	"tithing/api"
)

// group is a set of entries: bit n tells whether it has the entry n.
type group int

// groups is how many groups of entries there are.
const groups = 1 << api.MaxSheetEntries

func groupOf(entries ...int) group {
	var g group
	for _, n := range entries {
		g |= 1 << n
	}
	return g
}

// first returns the first entry of the group, which has one.
func (g group) first() int { return bits.TrailingZeros(uint(g)) }

// all yields the entries of the group, rising.
func (g group) all() iter.Seq[int] {
	return func(yield func(int) bool) {
		for rest := g; rest != 0; rest &= rest - 1 {
			if !yield(rest.first()) {
				return
			}
		}
	}
}

func (g group) list() []int { return slices.Collect(g.all()) }

// parts yields the groups that have only entries of the group; the empty one is the last.
func (g group) parts() iter.Seq[group] {
	return func(yield func(group) bool) {
		for part := g; yield(part) && part != 0; {
			part = (part - 1) & g
		}
	}
}

// choices yields the rising lists of that many numbers from 0 to below the end, in lexicographic order. It writes each list over the one before.
func choices(end, many int) iter.Seq[[]int] {
	return func(yield func([]int) bool) {
		list := make([]int, many)
		var choose func(at, from int) bool
		choose = func(at, from int) bool {
			if at == many {
				return yield(list)
			}
			for n := from; n < end; n++ {
				list[at] = n
				if !choose(at+1, n+1) {
					return false
				}
			}
			return true
		}
		choose(0, 0)
	}
}
