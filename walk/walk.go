// Package walk is layer 1: it plans the walks of enumerators within a time limit. See shared/doc/01-walk.md.
package walk

import (
	"sort"

	"tithing/api"
)

// Range has all whole numbers from Lo to Hi.
type Range struct{ Lo, Hi int }

// Road joins two places in both directions.
type Road struct {
	A, B int
	Time Range
}

// Map has the work at each place, and the roads between places; the place 0 is the office.
type Map struct {
	Work  []Range
	Roads []Road
}

// Truth has a number for the work at each place and for the time of each road.
type Truth struct{ Work, Roads []int }

// Walk has the places in the order in which it comes to them, and those that it counts.
type Walk struct{ Route, Counts []int }

// CheckMap returns the error of the map, or OK.
func CheckMap(m Map) api.Errno {
	if len(m.Work) > api.MaxWalkPlaces || len(m.Roads) > api.MaxWalkRoads {
		return api.ErrLimit
	}
	if !m.valid() {
		return api.ErrArg
	}
	return api.OK
}

// Time returns the time of the walk in the truth.
func Time(m Map, w Walk, t Truth) (int, api.Errno) {
	if e := checkPlan(m, []Walk{w}); e != api.OK {
		return 0, e
	}
	if !m.allows(t) {
		return 0, api.ErrRange
	}
	return m.time(w, t), api.OK
}

// Bounds returns the range from the smallest to the greatest time that the walk has in any truth.
func Bounds(m Map, w Walk) (Range, api.Errno) {
	if e := checkPlan(m, []Walk{w}); e != api.OK {
		return Range{}, e
	}
	return m.bounds(w), api.OK
}

// Way returns a quickest way between the two places, and its longest time.
func Way(m Map, from, to int) (way []int, longest int, e api.Errno) {
	if e := CheckMap(m); e != api.OK {
		return nil, 0, e
	}
	if !m.isPlace(from) || !m.isPlace(to) {
		return nil, 0, api.ErrRange
	}
	s := newSurvey(m)
	if s.far[from][to] == never {
		return nil, 0, api.ErrNone
	}
	return s.way(from, to), s.far[from][to], api.OK
}

// Tour returns a quickest tour of the places, and its longest time.
func Tour(m Map, places []int) (w Walk, longest int, e api.Errno) {
	if e := CheckMap(m); e != api.OK {
		return Walk{}, 0, e
	}
	if !rises(places) || !every(places, m.isPlace) {
		return Walk{}, 0, api.ErrRange
	}
	s := newSurvey(m)
	if !every(places, s.reached) {
		return Walk{}, 0, api.ErrNone
	}
	counts := setOf(places...)
	return s.tour(counts), s.longest(counts), api.OK
}

// Faults returns the places that no walk of the plan counts, those that several of them count, and the walks that are not punctual for the limit.
func Faults(m Map, plan []Walk, limit int) (missing, twice, late []int, e api.Errno) {
	if e := checkPlan(m, plan); e != api.OK {
		return nil, nil, nil, e
	}
	if !isLimit(limit) {
		return nil, nil, nil, api.ErrRange
	}
	for place, times := range m.counted(plan) {
		if times == 0 {
			missing = append(missing, place)
		}
		if times > 1 {
			twice = append(twice, place)
		}
	}
	for i, w := range plan {
		if m.bounds(w).Hi > limit {
			late = append(late, i)
		}
	}
	return missing, twice, late, api.OK
}

// Reach returns the places of which, each for itself, there is a tour that is punctual for the limit.
func Reach(m Map, limit int) ([]int, api.Errno) {
	if e := checkLimit(m, limit); e != api.OK {
		return nil, e
	}
	s := newSurvey(m)
	var reach []int
	for place := range len(m.Work) {
		if s.longest(setOf(place)) <= limit {
			reach = append(reach, place)
		}
	}
	return reach, api.OK
}

// Plan returns a right plan with as few walks as possible.
func Plan(m Map, limit int) ([]Walk, api.Errno) {
	if e := checkLimit(m, limit); e != api.OK {
		return nil, e
	}
	s := newSurvey(m)
	parts, ok := s.divide(s.tours(), limit)
	if !ok {
		return nil, api.ErrFail
	}
	var plan []Walk
	for _, part := range parts {
		plan = append(plan, s.tour(part))
	}
	return plan, api.OK
}

// Fewest returns the number of walks of a right plan with as few walks as possible.
func Fewest(m Map, limit int) (int, api.Errno) {
	if e := checkLimit(m, limit); e != api.OK {
		return 0, e
	}
	s := newSurvey(m)
	parts, ok := s.divide(s.tours(), limit)
	if !ok {
		return 0, api.ErrFail
	}
	return len(parts), api.OK
}

// Least returns the smallest limit for which some plan with at most that many walks is right.
func Least(m Map, many int) (int, api.Errno) {
	if e := CheckMap(m); e != api.OK {
		return 0, e
	}
	if many < 1 || many > api.MaxWalkWalks {
		return 0, api.ErrRange
	}
	s := newSurvey(m)
	for place := range len(m.Work) {
		if !s.reached(place) {
			return 0, api.ErrNone
		}
	}
	tours := s.tours()
	return sort.Search(api.MaxWalkLimit, func(limit int) bool {
		parts, ok := s.divide(tours, limit)
		return ok && len(parts) <= many
	}), api.OK
}

// ProvePlan reports whether all that it is given is valid, the plan is right for the limit, and it has at most that many walks.
func ProvePlan(m Map, plan []Walk, limit, many int) bool {
	missing, twice, late, e := Faults(m, plan, limit)
	return e == api.OK && len(plan) <= many && len(missing)+len(twice)+len(late) == 0
}
