package border

import (
	"iter"
	"slices"

	"tithing/api"
	"tithing/round"
)

// layout tells in which district each street lies.
type layout [api.MaxBorderStreets]int

// listed returns the layout that borders tell.
func listed(borders []int) layout {
	var in layout
	copy(in[:], borders)
	return in
}

// atlas is a map at work.
type atlas struct {
	Map
	old, now layout        // now has the new districts of the borders that are looked at
	meets    map[Join]bool // each join in both directions
}

// work returns the atlas of a valid map, with the borders of the map itself.
func work(m Map) atlas {
	a := atlas{Map: m, meets: map[Join]bool{}}
	for street, s := range m.Streets {
		a.old[street] = s.Old
		a.now[street] = s.New
	}
	for _, j := range m.Joins {
		a.meets[j] = true
		a.meets[Join{j.B, j.A}] = true
	}
	return a
}

// consistent returns the atlas of a map that is consistent; the error is the map's, or tells that it is not.
func consistent(m Map) (atlas, api.Errno) {
	if e := CheckMap(m); e != api.OK {
		return atlas{}, e
	}
	a := work(m)
	for old, count := range a.Old {
		if !a.room(old).has(count) {
			return atlas{}, api.ErrFail
		}
	}
	return a, api.OK
}

// lying yields the streets that lie in the district.
func (a atlas) lying(in layout, district int) iter.Seq[int] {
	return func(yield func(int) bool) {
		for street := range len(a.Streets) {
			if in[street] == district && !yield(street) {
				return
			}
		}
	}
}

// room returns the range of how many people the streets of the old district have, before its count is looked at.
func (a atlas) room(old int) Range {
	var all Range
	for street := range a.lying(a.old, old) {
		all = all.plus(a.Streets[street].People)
	}
	return all
}

// among returns the range of how many people of the old district live in the streets that are asked for, in truths: all others live in its other streets.
func (a atlas) among(old int, asked func(street int) bool) Range {
	var in, out Range
	for street := range a.lying(a.old, old) {
		people := a.Streets[street].People
		if asked(street) {
			in = in.plus(people)
		} else {
			out = out.plus(people)
		}
	}
	count := a.Old[old]
	return Range{max(in.Lo, count-out.Hi), least(in.Hi, count-out.Lo)}
}

// people returns the bounds of the streets.
func (a atlas) people() []Range {
	var list []Range
	for street, s := range a.Streets {
		list = append(list, a.among(s.Old, func(other int) bool { return other == street }))
	}
	return list
}

// size returns the bounds of the size of a new district.
func (a atlas) size(district int) Range {
	var all Range
	for old := range a.Old {
		all = all.plus(a.among(old, func(street int) bool { return a.now[street] == district }))
	}
	return all
}

func (a atlas) sizes() []Range {
	var list []Range
	for district := range a.New {
		list = append(list, a.size(district))
	}
	return list
}

// carried returns the carried counts of the streets and of the new districts.
func (a atlas) carried() (streets, districts []int) {
	streets, districts = make([]int, len(a.Streets)), make([]int, a.New)
	for old, count := range a.Old {
		list := slices.Collect(a.lying(a.old, old))
		var weights []int
		for _, street := range list {
			weights = append(weights, a.Streets[street].Weight)
		}
		// A valid map has counts and weights that can always be divided.
		parts, _ := round.Divide(weights, count)
		for i, part := range parts {
			streets[list[i]] = part
			districts[a.now[list[i]]] += part
		}
	}
	return streets, districts
}

// isTruth reports whether the numbers, one for each street, are a truth.
func (a atlas) isTruth(people []int) bool {
	var sums [api.MaxBorderDistricts]int
	for street, n := range people {
		if !a.Streets[street].People.has(n) {
			return false
		}
		sums[a.old[street]] += n
	}
	return slices.Equal(sums[:len(a.Old)], a.Old)
}
