package border

import (
	"iter"

	"tithing/api"
)

// connected reports whether the district has streets, and all of them can be reached from each other within it.
func (a atlas) connected(district int) bool {
	var reached [api.MaxBorderStreets]bool
	var visit func(street int)
	visit = func(street int) {
		reached[street] = true
		for other := range a.lying(a.now, district) {
			if !reached[other] && a.meets[Join{street, other}] {
				visit(other)
			}
		}
	}
	some, all := false, true
	for street := range a.lying(a.now, district) {
		if !some {
			some = true
			visit(street)
		}
		all = all && reached[street]
	}
	return some && all
}

// right reports whether the borders that are looked at are right, if the map is consistent.
func (a atlas) right(limits Range) bool {
	for district := range a.New {
		if !a.size(district).within(limits) || !a.connected(district) {
			return false
		}
	}
	return true
}

// moved returns how many streets the borders that are looked at move.
func (a atlas) moved() int {
	moved := 0
	for street, s := range a.Streets {
		if a.now[street] != s.New {
			moved++
		}
	}
	return moved
}

// moving yields all borders that move just so many streets, the smaller list of two before the other.
func (a atlas) moving(many int) iter.Seq[layout] {
	return func(yield func(layout) bool) {
		var in layout
		var choose func(street, left int) bool
		choose = func(street, left int) bool {
			switch {
			case left < 0 || left > len(a.Streets)-street:
				return true
			case street == len(a.Streets):
				return yield(in)
			}
			for district := range a.New {
				after := left
				if district != a.Streets[street].New {
					after--
				}
				in[street] = district
				if !choose(street+1, after) {
					return false
				}
			}
			return true
		}
		choose(0, many)
	}
}

// best returns the best borders, and how many streets they move.
func (a atlas) best(limits Range) (borders []int, moved int, e api.Errno) {
	e = api.ErrNone
search:
	for many := range len(a.Streets) + 1 {
		for in := range a.moving(many) {
			a.now = in
			if a.right(limits) {
				borders, moved, e = in[:len(a.Streets)], many, api.OK
				break search
			}
		}
	}
	return borders, moved, e
}
