package walk

import (
	"slices"

	"tithing/api"
)

// office is the place where each walk starts and ends.
const office = 0

// checkPlan returns the first error of the map and of the walks, all of whose lengths are checked before any of their places.
func checkPlan(m Map, plan []Walk) api.Errno {
	if e := CheckMap(m); e != api.OK {
		return e
	}
	if len(plan) > api.MaxWalkWalks || !every(plan, Walk.short) {
		return api.ErrLimit
	}
	if !every(plan, m.hasWalk) {
		return api.ErrRange
	}
	return api.OK
}

// checkLimit returns the first error of the map and of the limit.
func checkLimit(m Map, limit int) api.Errno {
	if e := CheckMap(m); e != api.OK {
		return e
	}
	if !isLimit(limit) {
		return api.ErrRange
	}
	return api.OK
}

func isLimit(limit int) bool { return 0 <= limit && limit <= api.MaxWalkLimit }

// every reports whether all elements of the list are as asked.
func every[T any](list []T, asked func(T) bool) bool {
	for _, x := range list {
		if !asked(x) {
			return false
		}
	}
	return true
}

func rises(list []int) bool {
	for i := 1; i < len(list); i++ {
		if list[i-1] >= list[i] {
			return false
		}
	}
	return true
}

func (r Range) within(least, most int) bool {
	return least <= r.Lo && r.Lo <= r.Hi && r.Hi <= most
}

func (r Range) has(n int) bool { return r.Lo <= n && n <= r.Hi }

func (r Range) isWork() bool { return r.within(0, api.MaxWalkWork) }

func (r Range) isTime() bool { return r.within(1, api.MaxWalkTime) }

// beside reports whether both roads join the same two places.
func (r Road) beside(other Road) bool {
	return r.A == other.A && r.B == other.B || r.A == other.B && r.B == other.A
}

func (m Map) isPlace(n int) bool { return 0 <= n && n < len(m.Work) }

// valid reports whether the map, whose lists are not too long, is valid.
func (m Map) valid() bool {
	if len(m.Work) == 0 || !every(m.Work, Range.isWork) || !every(m.Roads, m.canHave) {
		return false
	}
	for i, r := range m.Roads {
		if slices.ContainsFunc(m.Roads[:i], r.beside) {
			return false
		}
	}
	return true
}

// canHave reports whether the road, by itself, can be one of the map.
func (m Map) canHave(r Road) bool {
	return m.isPlace(r.A) && m.isPlace(r.B) && r.A != r.B && r.Time.isTime()
}

// roadBetween returns the index of the road that joins the two places, or -1.
func (m Map) roadBetween(a, b int) int {
	return slices.IndexFunc(m.Roads, Road{A: a, B: b}.beside)
}

func (w Walk) short() bool { return len(w.Route) <= api.MaxWalkStops }

// hasWalk reports whether the walk, whose Route is not too long, is one of the map.
func (m Map) hasWalk(w Walk) bool {
	return m.hasRoute(w.Route) && rises(w.Counts) && every(w.Counts, w.comesTo)
}

func (m Map) hasRoute(route []int) bool {
	last := len(route) - 1
	if last < 0 || route[0] != office || route[last] != office || !every(route, m.isPlace) {
		return false
	}
	for i := range last {
		if m.roadBetween(route[i], route[i+1]) < 0 {
			return false
		}
	}
	return true
}

func (w Walk) comesTo(place int) bool { return slices.Contains(w.Route, place) }

// allows reports whether the truth is one of the map.
func (m Map) allows(t Truth) bool {
	if len(t.Work) != len(m.Work) || len(t.Roads) != len(m.Roads) {
		return false
	}
	for i, work := range m.Work {
		if !work.has(t.Work[i]) {
			return false
		}
	}
	for i, road := range m.Roads {
		if !road.Time.has(t.Roads[i]) {
			return false
		}
	}
	return true
}
