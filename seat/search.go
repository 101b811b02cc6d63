package seat

import (
	"slices"

	"tithing/api"
)

// bounds returns the range of the seats of each party. A higher count never takes a seat from its party, nor gives one to another one: so a party has the most seats with its highest count and the lowest ones of all others, admitted or not, and the fewest the other way round.
func bounds(r Rule, counts []Range) []Range {
	var lows, highs []int
	for _, c := range counts {
		lows = append(lows, c.Lo)
		highs = append(highs, c.Hi)
	}
	var list []Range
	for party, c := range counts {
		fewest, _ := work(r, with(highs, party, c.Lo)).outcome()
		_, most := work(r, with(lows, party, c.Hi)).outcome()
		list = append(list, Range{fewest[party], most[party]})
	}
	return list
}

// with returns a list that has another number for the party.
func with(list []int, party, n int) []int {
	list = slices.Clone(list)
	list[party] = n
	return list
}

// moves reports whether the change moves a seat, if these seats are the only result.
func (p poll) moves(party, change int, now numbers) bool {
	p.counts[party] += change
	if !allCounts().has(p.counts[party]) {
		return false
	}
	_, isOnly := p.recounted().judge(now)
	return !isOnly
}

// smallestChange returns the smallest change of one of so many parties that moves a seat, if these seats are the only result.
func (p poll) smallestChange(now numbers, parties int) (party, change int, e api.Errno) {
	e = api.ErrFail
search:
	for size := 1; size <= api.MaxSeatCount; size++ {
		for i := 0; i < parties; i++ {
			for _, n := range [2]int{size, -size} {
				if p.moves(i, n, now) {
					party, change, e = i, n, api.OK
					break search
				}
			}
		}
	}
	return party, change, e
}
