package hide

import (
	"iter"
	"slices"
)

func (p publication) satisfies(r Request) bool {
	value := p.value(r.Cell)
	return p.end(r.Cell, down(), up()) <= value-r.Below && p.end(r.Cell, up(), down()) >= value+r.Above
}

// sufficient reports whether all requests are satisfied.
func (p publication) sufficient(requests []Request) bool { return every(requests, p.satisfies) }

// best returns the best set for the requests, and whether there is one. With more hidden cells no range is narrower: if all of them are not sufficient, nothing is.
func (p publication) best(requests []Request) (set []Cell, some bool) {
	shown := slices.Collect(p.cells(p.shows))
	if !p.with(shown).sufficient(requests) {
		return nil, false
	}
search:
	for many := range len(shown) + 1 {
		for further := range choices(shown, many) {
			if q := p.with(further); q.sufficient(requests) {
				set = slices.Collect(q.cells(q.hides))
				break search
			}
		}
	}
	return set, true
}

// choices yields the lists of so many of the cells, in lexicographic order. A list is overwritten when the next one is made.
func choices(cells []Cell, many int) iter.Seq[[]Cell] {
	return func(yield func([]Cell) bool) {
		list := make([]Cell, 0, many)
		var choose func(rest []Cell) bool
		choose = func(rest []Cell) bool {
			if len(list) == many {
				return yield(list)
			}
			for i, c := range rest {
				list = append(list, c)
				goesOn := choose(rest[i+1:])
				list = list[:len(list)-1]
				if !goesOn {
					return false
				}
			}
			return true
		}
		choose(cells)
	}
}
