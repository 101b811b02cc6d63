package walk_test

import (
	"slices"
	"testing"

	"tithing/api"
	"tithing/walk"
)

// P1.8: in each truth no walk of a right plan takes longer than the limit, and each place is counted once.
func TestPlanIsInTime(t *testing.T) {
	forMaps(t, 8, func(t *testing.T, d *dice, m walk.Map) {
		limit := 20 + d.upTo(150)
		plan, e := walk.Plan(m, limit)
		if e != api.OK {
			return
		}
		least, most := ends(m)
		for _, truth := range []walk.Truth{least, most, d.throwTruth(m), d.throwTruth(m)} {
			for _, w := range plan {
				if n, e := walk.Time(m, w, truth); n > limit || e != api.OK {
					t.Errorf("%v takes %d, %v, more than %d", w, n, e, limit)
				}
			}
		}
		counted := make([]int, len(m.Work))
		for _, w := range plan {
			for _, place := range w.Counts {
				counted[place]++
			}
		}
		if slices.Min(counted) != 1 || slices.Max(counted) != 1 {
			t.Errorf("%v counts %v", plan, counted)
		}
	})
}

// P1.9: the time of a walk is within its bounds in each truth, and both ends are reached.
func TestBoundsHoldAllTimes(t *testing.T) {
	forMaps(t, 8, func(t *testing.T, d *dice, m walk.Map) {
		w := d.throwWalk(m)
		r, e := walk.Bounds(m, w)
		if e != api.OK {
			t.Errorf("Bounds of %v of %v: %v", w, m, e)
		}
		least, most := ends(m)
		for _, truth := range []walk.Truth{least, most, d.throwTruth(m), d.throwTruth(m), d.throwTruth(m)} {
			n, e := walk.Time(m, w, truth)
			if e != api.OK || n != takes(m, w, truth) || n < r.Lo || n > r.Hi {
				t.Errorf("Time of %v of %v in %v: %d, %v; bounds %v", w, m, truth, n, e, r)
			}
		}
		if r != to(takes(m, w, least), takes(m, w, most)) {
			t.Errorf("Bounds of %v of %v: %v are not reached", w, m, r)
		}
	})
}

// P1.9 for each of the truths of a small map.
func TestBoundsOfAllTruths(t *testing.T) {
	w := path(list(1, 2), 0, 1, 2, 1, 0)
	low, high := 1000, 0
	for a := 4; a <= 5; a++ {
		for b := 2; b <= 3; b++ {
			for c := 1; c <= 2; c++ {
				n, e := walk.Time(ring(), w, walk.Truth{Work: list(2, a, 3, 6), Roads: list(b, c, 4, 5)})
				if e != api.OK || n != a+3+2*b+2*c {
					t.Errorf("Time: %d, %v", n, e)
				}
				low, high = min(low, n), max(high, n)
			}
		}
	}
	if r, e := walk.Bounds(ring(), w); r != to(low, high) || e != api.OK {
		t.Errorf("Bounds: %v, %v, not %d to %d", r, e, low, high)
	}
}

// P1.10: no right plan has fewer walks than Plan returns; Least is a limit of a plan, and the one below it is none.
func TestNoFewer(t *testing.T) {
	forMaps(t, 8, func(t *testing.T, d *dice, m walk.Map) {
		for many := 1; many <= 8; many++ {
			limit, e := walk.Least(m, many)
			if e != api.OK {
				continue
			}
			plan, e := walk.Plan(m, limit)
			if e != api.OK || len(plan) > many || !isRight(m, plan, limit) {
				t.Errorf("Plan for the least limit %d of %d walks of %v: %v, %v", limit, many, m, plan, e)
			}
			if limit == 0 {
				continue
			}
			if n, e := walk.Fewest(m, limit-1); e == api.OK && n <= many {
				t.Errorf("Fewest for %d of %v: %d, and yet %d is the least limit of %d", limit-1, m, n, limit, many)
			}
		}
	})
}

// P1.11: a quickest way takes as long in the other direction, and through a third place at least as long.
func TestWaysBetweenThree(t *testing.T) {
	forMaps(t, 8, func(t *testing.T, d *dice, m walk.Map) {
		for from := range m.Work {
			for goal := range m.Work {
				_, n, e := walk.Way(m, from, goal)
				if _, back, f := walk.Way(m, goal, from); n != back || e != f {
					t.Errorf("Way between %d and %d of %v: %d, %v; %d, %v", from, goal, m, n, e, back, f)
				}
				third := d.upTo(len(m.Work) - 1)
				_, a, f := walk.Way(m, from, third)
				_, b, g := walk.Way(m, third, goal)
				if f == api.OK && g == api.OK && (e != api.OK || a+b < n) {
					t.Errorf("Way from %d to %d of %v: %d, %v; through %d: %d", from, goal, m, n, e, third, a+b)
				}
			}
		}
	})
}

func union(a, b []int) []int {
	both := slices.Concat(a, b)
	slices.Sort(both)
	return slices.Compact(both)
}

// P1.12: a tour of more places takes at least as long, and a tour of two sets at most as long as two tours.
func TestToursOfMore(t *testing.T) {
	forMaps(t, 8, func(t *testing.T, d *dice, m walk.Map) {
		for range 10 {
			some, others := d.throwPlaces(m), d.throwPlaces(m)
			_, a, e := walk.Tour(m, some)
			_, b, f := walk.Tour(m, others)
			_, both, g := walk.Tour(m, union(some, others))
			if e != api.OK || f != api.OK {
				if g != api.ErrNone {
					t.Errorf("Tour of %v and %v of %v: %v", some, others, m, g)
				}
				continue
			}
			if g != api.OK || both < a || both < b || both > a+b {
				t.Errorf("Tour of %v and %v of %v: %d, %d; both: %d, %v", some, others, m, a, b, both, g)
			}
		}
	})
}

// easier returns maps that are like the map, with a further road, or with a road or work of a smaller greatest time.
func easier(d *dice, m walk.Map) []walk.Map {
	var maps []walk.Map
	a, b := d.upTo(len(m.Work)-1), d.upTo(len(m.Work)-1)
	if _, ok := between(m, a, b); !ok && a != b && len(m.Roads) < 20 {
		more := copyOf(m)
		more.Roads = append(more.Roads, walk.Road{A: a, B: b, Time: d.within(1, 20)})
		maps = append(maps, more)
	}
	if len(m.Roads) > 0 {
		less := copyOf(m)
		r := &less.Roads[d.upTo(len(m.Roads)-1)].Time
		*r = to(1, max(1, r.Hi-1-d.upTo(5)))
		maps = append(maps, less)
	}
	less := copyOf(m)
	r := &less.Work[d.upTo(len(m.Work)-1)]
	*r = to(0, max(0, r.Hi-1-d.upTo(5)))
	return append(maps, less)
}

// P1.13: with a greater limit, or a map that is easier, no more walks are needed, and no fewer places are reached.
func TestEasier(t *testing.T) {
	noHarder := func(t *testing.T, m, other walk.Map, limit, higher int) {
		t.Helper()
		n, e := walk.Fewest(m, limit)
		if k, f := walk.Fewest(other, higher); e == api.OK && (f != api.OK || k > n) {
			t.Errorf("Fewest of %v for %d: %d; of %v for %d: %d, %v", m, limit, n, other, higher, k, f)
		}
		some, _ := walk.Reach(m, limit)
		more, e := walk.Reach(other, higher)
		if e != api.OK || !slices.Equal(union(some, more), more) {
			t.Errorf("Reach of %v for %d: %v; of %v for %d: %v, %v", m, limit, some, other, higher, more, e)
		}
	}
	forMaps(t, 7, func(t *testing.T, d *dice, m walk.Map) {
		limit := d.upTo(150)
		noHarder(t, m, m, limit, limit+1+d.upTo(9))
		for _, other := range easier(d, m) {
			noHarder(t, m, other, limit, limit)
		}
	})
}

// P1.14: a plan exists for a limit if and only if each place is reached for itself.
func TestPlanIfReached(t *testing.T) {
	forMaps(t, 8, func(t *testing.T, d *dice, m walk.Map) {
		limits := list(0, 10000, d.upTo(150))
		for place := range m.Work {
			if _, n, e := walk.Tour(m, list(place)); e == api.OK {
				limits = append(limits, n, max(n-1, 0))
			}
		}
		for _, limit := range limits {
			reach, e := walk.Reach(m, limit)
			if e != api.OK {
				t.Errorf("Reach for %d of %v: %v", limit, m, e)
			}
			for place := range m.Work {
				_, n, e := walk.Tour(m, list(place))
				if slices.Contains(reach, place) != (e == api.OK && n <= limit) {
					t.Errorf("Reach for %d of %v: %v; Tour of %d: %d, %v", limit, m, reach, place, n, e)
				}
			}
			plan, e := walk.Plan(m, limit)
			all := slices.Equal(reach, allPlaces(m))
			if (e == api.OK) != all || !all && e != api.ErrFail || all && !isRight(m, plan, limit) {
				t.Errorf("Plan for %d of %v: %v, %v; Reach: %v", limit, m, plan, e, reach)
			}
		}
	})
}

// P1.15: with one enumerator more Least is not greater; with as many as there are places it is the greatest time of the tours of single places.
func TestMoreEnumerators(t *testing.T) {
	forMaps(t, 8, func(t *testing.T, d *dice, m walk.Map) {
		last, e := walk.Least(m, 1)
		for many := 2; many <= 8; many++ {
			n, f := walk.Least(m, many)
			if f != e || n > last {
				t.Errorf("Least of %v of %d: %d, %v; of one less: %d, %v", m, many, n, f, last, e)
			}
			last = n
		}
		longest := 0
		for place := range m.Work {
			_, n, f := walk.Tour(m, list(place))
			if f != api.OK {
				longest = -1
				break
			}
			longest = max(longest, n)
		}
		n, e := walk.Least(m, len(m.Work))
		if longest < 0 && e != api.ErrNone || longest >= 0 && (e != api.OK || n != longest) {
			t.Errorf("Least of %v of its places: %d, %v, not %d", m, n, e, longest)
		}
	})
}
