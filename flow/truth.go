package flow

import "slices"

// perRate is of how many persons a rate tells the dead.
const perRate = 1000

// dead returns how many of so many persons can die by the rate.
func (rate Range) dead(persons int) Range {
	return Range{persons * rate.Lo / perRate, (persons*rate.Hi + perRate - 1) / perRate}
}

// fewest returns how many of so many persons survive by the rate, at least.
func (rate Range) fewest(persons int) int { return persons - rate.dead(persons).Hi }

// most returns how many of so many persons survive by the rate, at most.
func (rate Range) most(persons int) int { return persons - rate.dead(persons).Lo }

// play returns the sizes to which the truth leads, and whether it can be.
func (t Table) play(x Truth) (sizes [][]int, can bool) {
	now, can := slices.Clone(x.First), true
	sizes = append(sizes, now)
	for census := range len(t.Births) {
		before := append([]int{x.Births[census]}, now...)
		can = can && t.canDie(before, x.Dead[census])
		now = next(before, x.Dead[census], x.Moved[census])
		can = can && least(0, now...) == 0
		sizes = append(sizes, now)
	}
	return sizes, can
}

// canDie reports whether each number of dead is possible, of births and then of all groups.
func (t Table) canDie(before, dead []int) bool {
	for i, rate := range t.Rates {
		if !rate.dead(before[i]).has(dead[i]) {
			return false
		}
	}
	return true
}

// next returns the sizes of all groups at the next census; those before, and the dead, begin with the births.
func next(before, dead, moved []int) []int {
	now := slices.Clone(moved)
	for i, n := range before {
		// The last group stays what it is.
		group := min(i, len(now)-1)
		now[group] += n - dead[i]
	}
	return now
}

// agrees reports whether each size is in the range of its count.
func (t Table) agrees(sizes [][]int) bool {
	for census, row := range t.Counted {
		if !allIn(row, sizes[census]) {
			return false
		}
	}
	return true
}
