package walk

import (
	"iter"

	"tithing/api"
)

// never is the time to a place that cannot be reached: longer than any walk, and yet the sum of two of them is a number.
const never = 1 << 30

// survey is a map at work, with what has been found out about it.
type survey struct {
	Map
	far   [api.MaxWalkPlaces][api.MaxWalkPlaces]int // the longest times of the quickest ways
	known map[stop]int                              // the times that walked has found
}

// stop is a place at the end of the set of places that have been come to.
type stop struct {
	done set
	last int
}

func smallest(first int, more ...int) int {
	for _, n := range more {
		if n < first {
			first = n
		}
	}
	return first
}

// next yields the places that a road joins with the place, with the greatest time of the road.
func (m Map) next(place int) iter.Seq2[int, int] {
	return func(yield func(int, int) bool) {
		for _, r := range m.Roads {
			if r.A == place && !yield(r.B, r.Time.Hi) || r.B == place && !yield(r.A, r.Time.Hi) {
				return
			}
		}
	}
}

// newSurvey finds the quickest ways through more and more places.
func newSurvey(m Map) *survey {
	s := &survey{Map: m, known: map[stop]int{}}
	places := len(s.Work)
	for from := range places {
		for to := range places {
			s.far[from][to] = never
		}
		s.far[from][from] = 0
		for to, time := range s.next(from) {
			s.far[from][to] = time
		}
	}
	for through := range places {
		for from := range places {
			for to := range places {
				s.far[from][to] = smallest(s.far[from][to], s.far[from][through]+s.far[through][to])
			}
		}
	}
	return s
}

func (s *survey) reached(place int) bool { return s.far[office][place] < never }

// way returns a quickest way to a place that can be reached. Each step makes what is left shorter, as no road takes 0.
func (s *survey) way(from, to int) []int {
	way := []int{from}
search:
	for from != to {
		for place, time := range s.next(from) {
			if time+s.far[place][to] == s.far[from][to] {
				way = append(way, place)
				from = place
				continue search
			}
		}
		break search
	}
	return way
}

// home returns the stop at which a tour of the places ends.
func home(places set) stop { return stop{places | setOf(office), office} }

// before yields the stops that can be the one before the stop.
func (s *survey) before(at stop) iter.Seq[stop] {
	return func(yield func(stop) bool) {
		rest := at.done &^ setOf(at.last)
		for place := range rest.all() {
			if !yield(stop{rest, place}) {
				return
			}
		}
	}
}

// walked returns the longest time of the roads of a quickest route from the office to the stop.
func (s *survey) walked(at stop) int {
	if time, ok := s.known[at]; ok {
		return time
	}
	best := never
	if at.done == setOf(at.last) {
		best = s.far[office][at.last]
	}
	for b := range s.before(at) {
		best = smallest(best, s.walked(b)+s.far[b.last][at.last])
	}
	s.known[at] = best
	return best
}

// longest returns the longest time of a quickest tour of the places; if there is none, it is at least never.
func (s *survey) longest(places set) int {
	time := s.walked(home(places))
	for place := range places.all() {
		time += s.Work[place].Hi
	}
	return time
}

// route returns the Route of a quickest tour of places that can be reached. It is followed from its end, as roads lead in both directions.
func (s *survey) route(places set) []int {
	route := []int{office}
	at := home(places)
search:
	for {
		for b := range s.before(at) {
			if s.walked(b)+s.far[b.last][at.last] == s.walked(at) {
				route = append(route, s.way(at.last, b.last)[1:]...)
				at = b
				continue search
			}
		}
		return append(route, s.way(at.last, office)[1:]...)
	}
}

func (s *survey) tour(places set) Walk {
	return Walk{Route: s.route(places), Counts: places.list()}
}

// tours returns the longest times of the quickest tours of all sets of places of the map.
func (s *survey) tours() [sets]int {
	var times [sets]int
	for places := range set(1) << len(s.Work) {
		times[places] = s.longest(places)
	}
	return times
}

// divide divides the places into as few sets as possible whose tours, of these longest times, are punctual for the limit; it reports whether it can.
func (s *survey) divide(tours [sets]int, limit int) ([]set, bool) {
	type division struct {
		first set
		many  int
	}
	var known [sets]division
	var best func(rest set) division
	best = func(rest set) division {
		if rest == 0 || known[rest].many > 0 {
			return known[rest]
		}
		d := division{many: never}
		for part := range rest.parts() {
			if tours[part] > limit {
				continue
			}
			if many := best(rest&^part).many + 1; many < d.many {
				d = division{part, many}
			}
		}
		known[rest] = d
		return d
	}
	rest := set(1)<<len(s.Work) - 1
	if best(rest).many == never {
		return nil, false
	}
	var parts []set
	for rest != 0 {
		part := best(rest).first
		parts = append(parts, part)
		rest &^= part
	}
	return parts, true
}
