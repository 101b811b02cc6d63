package walk_test

import (
	"slices"
	"testing"

	"tithing/walk"
)

func to(low, high int) walk.Range { return walk.Range{Lo: low, Hi: high} }

func road(a, b, low, high int) walk.Road { return walk.Road{A: a, B: b, Time: to(low, high)} }

func path(counts []int, route ...int) walk.Walk { return walk.Walk{Route: route, Counts: counts} }

func list(l ...int) []int { return l }

// ring is the map of the chapter's examples.
func ring() walk.Map {
	return walk.Map{
		Work:  []walk.Range{to(2, 3), to(4, 5), to(3, 3), to(6, 8)},
		Roads: []walk.Road{road(0, 1, 2, 3), road(1, 2, 1, 2), road(0, 3, 4, 4), road(2, 3, 5, 6)},
	}
}

// island has no road to the place 3.
func island() walk.Map {
	m := ring()
	m.Roads = m.Roads[:2]
	return m
}

// largest is as large as a map may be, and everything in it takes as long as it may.
func largest() walk.Map {
	m := walk.Map{}
	for a := range 8 {
		m.Work = append(m.Work, to(0, 50))
		for b := range a {
			if len(m.Roads) < 20 {
				m.Roads = append(m.Roads, road(a, b, 1, 50))
			}
		}
	}
	m.Roads[19] = road(7, 0, 50, 50)
	return m
}

// lane is a row of as many places as a map may have, in which everything takes as long as it may.
func lane() walk.Map {
	m := walk.Map{Work: []walk.Range{to(50, 50)}}
	for place := 1; place < 8; place++ {
		m.Work = append(m.Work, to(50, 50))
		m.Roads = append(m.Roads, road(place, place-1, 50, 50))
	}
	return m
}

func copyOf(m walk.Map) walk.Map {
	return walk.Map{Work: slices.Clone(m.Work), Roads: slices.Clone(m.Roads)}
}

func sameMap(a, b walk.Map) bool {
	return slices.Equal(a.Work, b.Work) && slices.Equal(a.Roads, b.Roads)
}

func sameWalk(a, b walk.Walk) bool {
	return slices.Equal(a.Route, b.Route) && slices.Equal(a.Counts, b.Counts)
}

// dice are thrown in the same way in each run.
type dice uint64

func (d *dice) upTo(most int) int {
	*d = *d*6364136223846793005 + 1442695040888963407
	return int(uint64(*d)>>33) % (most + 1)
}

func (d *dice) within(low, high int) walk.Range {
	a, b := low+d.upTo(high-low), low+d.upTo(high-low)
	return to(min(a, b), max(a, b))
}

// throwMap makes a map of at most that many places; most of its places can be reached.
func (d *dice) throwMap(places int) walk.Map {
	m := walk.Map{}
	for range 1 + d.upTo(places-1) {
		m.Work = append(m.Work, d.within(0, 12))
	}
	for a := range m.Work {
		for b := range a {
			if d.upTo(9) < 5 && len(m.Roads) < 20 {
				m.Roads = append(m.Roads, walk.Road{A: a, B: b, Time: d.within(1, 20)})
			}
		}
	}
	for i := range m.Roads {
		if d.upTo(1) == 0 {
			m.Roads[i].A, m.Roads[i].B = m.Roads[i].B, m.Roads[i].A
		}
	}
	return m
}

func (d *dice) throwPlaces(m walk.Map) []int {
	var places []int
	for place := range m.Work {
		if d.upTo(1) == 0 {
			places = append(places, place)
		}
	}
	return places
}

// throwWalk makes a walk of the map: it goes astray, and then home in the same way.
func (d *dice) throwWalk(m walk.Map) walk.Walk {
	route := []int{0}
	for range d.upTo(12) {
		at := route[len(route)-1]
		next := d.upTo(len(m.Work) - 1)
		if _, ok := between(m, at, next); ok {
			route = append(route, next)
		}
	}
	for i := len(route) - 2; i >= 0; i-- {
		route = append(route, route[i])
	}
	counts := slices.DeleteFunc(d.throwPlaces(m), func(place int) bool { return !slices.Contains(route, place) })
	return walk.Walk{Route: route, Counts: counts}
}

func (d *dice) throwTruth(m walk.Map) walk.Truth {
	t := walk.Truth{}
	for _, r := range m.Work {
		t.Work = append(t.Work, r.Lo+d.upTo(r.Hi-r.Lo))
	}
	for _, r := range m.Roads {
		t.Roads = append(t.Roads, r.Time.Lo+d.upTo(r.Time.Hi-r.Time.Lo))
	}
	return t
}

// between returns the index of the road that joins the two places.
func between(m walk.Map, a, b int) (int, bool) {
	for i, r := range m.Roads {
		if r.A == a && r.B == b || r.A == b && r.B == a {
			return i, true
		}
	}
	return 0, false
}

// takes adds up the time of a walk, as the chapter defines it.
func takes(m walk.Map, w walk.Walk, t walk.Truth) int {
	sum := 0
	for i := 1; i < len(w.Route); i++ {
		r, _ := between(m, w.Route[i-1], w.Route[i])
		sum += t.Roads[r]
	}
	for _, place := range w.Counts {
		sum += t.Work[place]
	}
	return sum
}

// ends returns the truths in which everything takes the least, and the most.
func ends(m walk.Map) (least, most walk.Truth) {
	for _, r := range m.Work {
		least.Work, most.Work = append(least.Work, r.Lo), append(most.Work, r.Hi)
	}
	for _, r := range m.Roads {
		least.Roads, most.Roads = append(least.Roads, r.Time.Lo), append(most.Roads, r.Time.Hi)
	}
	return least, most
}

// isWalk reports whether the walk is one of the map, as the chapter defines it.
func isWalk(m walk.Map, w walk.Walk) bool {
	n := len(w.Route)
	if n < 1 || n > 64 || w.Route[0] != 0 || w.Route[n-1] != 0 {
		return false
	}
	for i := 1; i < n; i++ {
		if _, ok := between(m, w.Route[i-1], w.Route[i]); !ok {
			return false
		}
	}
	for i, place := range w.Counts {
		if !slices.Contains(w.Route, place) || i > 0 && w.Counts[i-1] >= place {
			return false
		}
	}
	return true
}

// isRight reports whether the plan is right, as the chapter defines it.
func isRight(m walk.Map, plan []walk.Walk, limit int) bool {
	var counted []int
	_, most := ends(m)
	for _, w := range plan {
		if !isWalk(m, w) || takes(m, w, most) > limit {
			return false
		}
		counted = append(counted, w.Counts...)
	}
	slices.Sort(counted)
	return len(plan) <= 8 && slices.Equal(counted, allPlaces(m))
}

func allPlaces(m walk.Map) []int {
	var places []int
	for place := range m.Work {
		places = append(places, place)
	}
	return places
}

// longestWay finds the longest time of a quickest way by trying all ways that come to no place twice.
func longestWay(m walk.Map, from, goal int) (int, bool) {
	best, found := 0, false
	var been [8]bool
	var try func(at, time int)
	try = func(at, time int) {
		if at == goal {
			if !found || time < best {
				best, found = time, true
			}
			return
		}
		been[at] = true
		for _, r := range m.Roads {
			if r.A == at && !been[r.B] {
				try(r.B, time+r.Time.Hi)
			}
			if r.B == at && !been[r.A] {
				try(r.A, time+r.Time.Hi)
			}
		}
		been[at] = false
	}
	try(from, 0)
	return best, found
}

// longestTours finds the longest times of the quickest tours of all sets of places (bit by bit; -1, if there is none), by shortening the time to be at a place with a set of places counted until nothing is shorter.
func longestTours(m walk.Map) []int {
	const far = 1 << 20
	sets := 1 << len(m.Work)
	been := make([][8]int, sets)
	for s := range been {
		for place := range been[s] {
			been[s][place] = far
		}
	}
	been[0][0] = 0
	for changed := true; changed; {
		changed = false
		shorten := func(s, place, time int) {
			if time < been[s][place] {
				been[s][place], changed = time, true
			}
		}
		for s := range been {
			for place, work := range m.Work {
				if s&(1<<place) == 0 {
					shorten(s|1<<place, place, been[s][place]+work.Hi)
				}
			}
			for _, r := range m.Roads {
				shorten(s, r.B, been[s][r.A]+r.Time.Hi)
				shorten(s, r.A, been[s][r.B]+r.Time.Hi)
			}
		}
	}
	times := make([]int, sets)
	for s := range times {
		times[s] = been[s][0]
		if times[s] >= far {
			times[s] = -1
		}
	}
	return times
}

// leastLimits finds the smallest limit for 1, 2 .. walks by trying all divisions of the places; -1, if no limit is enough.
func leastLimits(m walk.Map) []int {
	tours := longestTours(m)
	least := make([]int, len(m.Work))
	for i := range least {
		least[i] = -1
	}
	var walks []int
	var deal func(place int)
	deal = func(place int) {
		if place == len(m.Work) {
			longest := 0
			for _, s := range walks {
				if tours[s] < 0 {
					return
				}
				longest = max(longest, tours[s])
			}
			for many := len(walks); many <= len(least); many++ {
				if least[many-1] < 0 || longest < least[many-1] {
					least[many-1] = longest
				}
			}
			return
		}
		for i := range walks {
			walks[i] |= 1 << place
			deal(place + 1)
			walks[i] &^= 1 << place
		}
		walks = append(walks, 1<<place)
		deal(place + 1)
		walks = walks[:len(walks)-1]
	}
	deal(0)
	return least
}

// bits returns the set of the places, bit by bit.
func bits(places []int) int {
	s := 0
	for _, place := range places {
		s |= 1 << place
	}
	return s
}

// forMaps calls check with the maps of this file, and with many others.
func forMaps(t *testing.T, places int, check func(t *testing.T, d *dice, m walk.Map)) {
	t.Helper()
	d := dice(1)
	for _, m := range []walk.Map{ring(), island(), {Work: []walk.Range{to(0, 0)}}} {
		check(t, &d, m)
	}
	for range 120 {
		check(t, &d, d.throwMap(places))
		if t.Failed() {
			return
		}
	}
}
