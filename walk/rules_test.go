package walk_test

import (
	"math"
	"slices"
	"testing"

	"tithing/api"
	"tithing/walk"
)

// spoil writes to all the memory of the lists, up to their capacities.
func spoil(lists ...[]int) {
	for _, l := range lists {
		l = l[:cap(l)]
		for i := range l {
			l[i] = -7
		}
	}
}

// roomy returns the list with free room behind it, which nobody may write to either.
func roomy[T any](list []T) []T { return slices.Grow(slices.Clone(list), 8) }

// whole returns the list with all the room behind it.
func whole[T any](list []T) []T { return slices.Clone(list[:cap(list)]) }

// R4: arguments are not written to, not even behind their ends.
func TestArgumentsAreKept(t *testing.T) {
	m := walk.Map{Work: roomy(ring().Work), Roads: roomy(ring().Roads)}
	w := walk.Walk{Route: roomy(list(0, 3, 2, 1, 0)), Counts: roomy(list(0, 1, 3))}
	plan := roomy([]walk.Walk{w, w})
	places := roomy(list(0, 2, 3))
	_, most := ends(m)
	truth := walk.Truth{Work: roomy(most.Work), Roads: roomy(most.Roads)}
	kept := walk.Map{Work: whole(m.Work), Roads: whole(m.Roads)}
	lists := [][]int{w.Route, w.Counts, places, truth.Work, truth.Roads}
	var keptLists [][]int
	for _, l := range lists {
		keptLists = append(keptLists, whole(l))
	}
	keptPlan := whole(plan)

	walk.CheckMap(m)
	walk.Time(m, w, truth)
	walk.Bounds(m, w)
	walk.Way(m, 3, 1)
	walk.Tour(m, places)
	walk.Faults(m, plan, 30)
	walk.ProvePlan(m, plan, 10000, 2)
	walk.Reach(m, 13)
	walk.Plan(m, 19)
	walk.Fewest(m, 16)
	walk.Least(m, 2)

	if !sameMap(walk.Map{Work: whole(m.Work), Roads: whole(m.Roads)}, kept) {
		t.Error("the map is changed")
	}
	for i, l := range lists {
		if !slices.Equal(whole(l), keptLists[i]) {
			t.Errorf("list %d is changed: %v, not %v", i, whole(l), keptLists[i])
		}
	}
	if !slices.EqualFunc(whole(plan), keptPlan, sameWalk) {
		t.Error("the plan is changed")
	}
}

// R4: results are in memory of their own.
func TestMemory(t *testing.T) {
	m := ring()
	places := list(0, 1, 2, 3)
	w := path(list(0, 1, 2, 3), 0, 1, 2, 3, 0)
	plan := []walk.Walk{w, w}
	for range 2 {
		tour, n, _ := walk.Tour(m, places)
		checkTour(t, ring(), list(0, 1, 2, 3), tour, n)
		spoil(tour.Route)
		if !slices.Equal(tour.Counts, list(0, 1, 2, 3)) {
			t.Errorf("Route and Counts share memory: %v", tour)
		}
		spoil(tour.Counts)
		way, n, _ := walk.Way(m, 0, 2)
		checkWay(t, ring(), 0, 2, way, n)
		spoil(way)
		missing, twice, late, _ := walk.Faults(m, plan, 33)
		if len(missing) != 0 || !slices.Equal(twice, list(0, 1, 2, 3)) || !slices.Equal(late, list(0, 1)) {
			t.Errorf("Faults: %v, %v, %v", missing, twice, late)
		}
		spoil(twice)
		if !slices.Equal(late, list(0, 1)) {
			t.Errorf("lists of Faults share memory: %v", late)
		}
		spoil(missing, late)
		missing, twice, late, _ = walk.Faults(m, []walk.Walk{path(list(0), 0), path(list(0), 0)}, 2)
		spoil(missing)
		if !slices.Equal(twice, list(0)) || !slices.Equal(late, list(0, 1)) {
			t.Errorf("lists of Faults share memory: %v, %v", twice, late)
		}
		reach, _ := walk.Reach(m, 16)
		if !slices.Equal(reach, list(0, 1, 2, 3)) {
			t.Errorf("Reach: %v", reach)
		}
		spoil(reach)
	}
	if !sameMap(m, ring()) || !slices.Equal(places, list(0, 1, 2, 3)) || !sameWalk(w, path(list(0, 1, 2, 3), 0, 1, 2, 3, 0)) {
		t.Error("an argument shares memory with a result")
	}
}

// R4: no two lists of a plan share memory.
func TestMemoryOfPlan(t *testing.T) {
	for _, limit := range []int{34, 19, 16} {
		m := ring()
		plan, _ := walk.Plan(m, limit)
		var kept []walk.Walk
		for _, w := range plan {
			kept = append(kept, path(slices.Clone(w.Counts), slices.Clone(w.Route)...))
		}
		for i := range plan {
			spoil(plan[i].Route)
			if !slices.Equal(plan[i].Counts, kept[i].Counts) {
				t.Errorf("for %d: Route and Counts share memory", limit)
			}
			spoil(plan[i].Counts)
			for j := i + 1; j < len(plan); j++ {
				if !sameWalk(plan[j], kept[j]) {
					t.Errorf("for %d: walks %d and %d share memory", limit, i, j)
				}
			}
		}
		if !sameMap(m, ring()) {
			t.Errorf("for %d: the map is changed", limit)
		}
		checkPlan(t, m, limit, len(kept))
	}
}

// R3: nil and a list without elements are the same.
func TestEmptyLists(t *testing.T) {
	none, empty := walk.Map{Work: []walk.Range{to(1, 2)}}, walk.Map{Work: []walk.Range{to(1, 2)}, Roads: []walk.Road{}}
	for _, m := range []walk.Map{none, empty} {
		for _, places := range [][]int{nil, {}} {
			w := walk.Walk{Route: list(0), Counts: places}
			truth := walk.Truth{Work: list(1), Roads: places}
			if n, e := walk.Time(m, w, truth); n != 0 || e != api.OK {
				t.Errorf("Time: %d, %v", n, e)
			}
			if w, n, e := walk.Tour(m, places); !slices.Equal(w.Route, list(0)) || len(w.Counts) != 0 || n != 0 || e != api.OK {
				t.Errorf("Tour: %v, %d, %v", w, n, e)
			}
			if _, e := walk.Bounds(m, walk.Walk{Route: places}); e != api.ErrRange {
				t.Errorf("Bounds without a stop: %v", e)
			}
		}
		for _, plan := range [][]walk.Walk{nil, {}} {
			if a, b, c, e := walk.Faults(m, plan, 2); !slices.Equal(a, list(0)) || len(b)+len(c) != 0 || e != api.OK {
				t.Errorf("Faults: %v, %v, %v, %v", a, b, c, e)
			}
		}
		checkPlan(t, m, 2, 1)
		checkPlan(t, m, 1, 0)
	}
}

// P7: the roads lead to the same numbers in whatever order, and in whatever direction, they are listed.
func TestAnyOrder(t *testing.T) {
	forMaps(t, 7, func(t *testing.T, d *dice, m walk.Map) {
		other := copyOf(m)
		slices.Reverse(other.Roads)
		for i := range other.Roads {
			j := d.upTo(i)
			other.Roads[i], other.Roads[j] = other.Roads[j], other.Roads[i]
		}
		for i := range other.Roads {
			other.Roads[i].A, other.Roads[i].B = other.Roads[i].B, other.Roads[i].A
		}
		places, limit, w := d.throwPlaces(m), d.upTo(150), d.throwWalk(m)
		for goal := range m.Work {
			_, a, e := walk.Way(m, 0, goal)
			if _, b, f := walk.Way(other, 0, goal); a != b || e != f {
				t.Errorf("Way to %d of %v: %d, %v; %d, %v", goal, m, a, e, b, f)
			}
		}
		_, a, e := walk.Tour(m, places)
		if _, b, f := walk.Tour(other, places); a != b || e != f {
			t.Errorf("Tour of %v of %v: %d, %v; %d, %v", places, m, a, e, b, f)
		}
		r, _ := walk.Bounds(m, w)
		if s, e := walk.Bounds(other, w); r != s || e != api.OK {
			t.Errorf("Bounds of %v of %v: %v, %v", w, m, r, s)
		}
		n, e := walk.Fewest(m, limit)
		if k, f := walk.Fewest(other, limit); n != k || e != f {
			t.Errorf("Fewest of %v for %d: %d, %v; %d, %v", m, limit, n, e, k, f)
		}
		for many := 1; many <= 8; many++ {
			n, e := walk.Least(m, many)
			if k, f := walk.Least(other, many); n != k || e != f {
				t.Errorf("Least of %v of %d: %d, %v; %d, %v", m, many, n, e, k, f)
			}
		}
	})
}

// A call with equal arguments returns equal results, whatever was called before it.
func TestNothingIsStored(t *testing.T) {
	for range 3 {
		for _, x := range []struct {
			m           walk.Map
			limit, many int
			least       int
		}{{ring(), 19, 2, 16}, {lane(), 750, 3, 750}, {ring(), 16, 3, 16}, {lane(), 1100, 1, 750}, {island(), 10000, 0, 0}, {ring(), 34, 1, 16}} {
			checkPlan(t, x.m, x.limit, x.many)
			if n, _ := walk.Least(x.m, 8); n != x.least {
				t.Errorf("Least of %v: %d, not %d", x.m, n, x.least)
			}
		}
	}
}

// P1: each call returns, whatever its arguments are.
func TestWildArguments(t *testing.T) {
	wild := []int{math.MinInt, -1, 0, 1, 2, 3, 7, 8, 64, 10000, math.MaxInt}
	d := dice(3)
	number := func() int { return wild[d.upTo(len(wild)-1)] }
	numbers := func() []int {
		l := make([]int, d.upTo(9))
		for i := range l {
			l[i] = number()
		}
		return l
	}
	for range 4000 {
		m := d.throwMap(8)
		if d.upTo(2) == 0 {
			m.Work[d.upTo(len(m.Work)-1)] = to(number(), number())
		}
		if len(m.Roads) > 0 && d.upTo(2) == 0 {
			m.Roads[d.upTo(len(m.Roads)-1)] = road(number(), number(), number(), number())
		}
		m.Work = m.Work[:d.upTo(len(m.Work))]
		plan := make([]walk.Walk, d.upTo(9))
		for i := range plan {
			plan[i] = walk.Walk{Route: append(list(0), append(numbers(), 0)...), Counts: numbers()}
		}
		w := walk.Walk{Route: numbers(), Counts: numbers()}
		valid := walk.CheckMap(m) == api.OK
		_, e := walk.Time(m, w, walk.Truth{Work: numbers(), Roads: numbers()})
		_, f := walk.Bounds(m, w)
		_, _, g := walk.Way(m, number(), number())
		_, _, h := walk.Tour(m, numbers())
		_, _, _, i := walk.Faults(m, plan, number())
		_, j := walk.Reach(m, number())
		_, k := walk.Plan(m, number())
		_, l := walk.Fewest(m, number())
		_, n := walk.Least(m, number())
		proved := walk.ProvePlan(m, plan, number(), number())
		if !valid && (proved || slices.Contains([]api.Errno{e, f, g, h, i, j, k, l, n}, api.OK)) {
			t.Fatalf("%v is not valid, and yet some call has no error", m)
		}
	}
}
