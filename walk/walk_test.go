package walk_test

import (
	"slices"
	"testing"

	"tithing/api"
	"tithing/walk"
)

// P1.1: the time of a walk in a truth, and its bounds.
func TestTimeAndBounds(t *testing.T) {
	truth := walk.Truth{Work: list(2, 5, 3, 7), Roads: list(3, 1, 4, 6)}
	for _, x := range []struct {
		w      walk.Walk
		time   int
		bounds walk.Range
	}{
		{path(list(1, 2), 0, 1, 2, 1, 0), 16, to(13, 18)}, // the chapter's example
		{path(nil, 0), 0, to(0, 0)},
		{path(list(0), 0), 2, to(2, 3)},
		{path(list(0), 0, 1, 0), 8, to(6, 9)},
		{path(list(1), 0, 1, 0), 11, to(8, 11)},
		{path(nil, 0, 1, 0), 6, to(4, 6)},
		{path(list(0, 3), 0, 3, 0), 17, to(16, 19)},
		{path(nil, 0, 3, 0, 3, 0), 16, to(16, 16)}, // each use of a road takes time
		{path(list(3), 0, 3, 0, 3, 0), 23, to(22, 24)},
		{path(list(1, 2, 3), 0, 1, 2, 3, 0), 29, to(25, 31)},
		{path(list(0, 1, 2, 3), 0, 1, 2, 3, 0), 31, to(27, 34)},
		{path(list(0, 1, 2, 3), 0, 3, 2, 1, 0), 31, to(27, 34)},
		{path([]int{}, 0, 3, 0), 8, to(8, 8)},
	} {
		if n, e := walk.Time(ring(), x.w, truth); n != x.time || e != api.OK {
			t.Errorf("Time of %v: %d, %v", x.w, n, e)
		}
		if r, e := walk.Bounds(ring(), x.w); r != x.bounds || e != api.OK {
			t.Errorf("Bounds of %v: %v, %v", x.w, r, e)
		}
	}
}

// triangle has walks of any number of stops but 2.
func triangle() walk.Map {
	return walk.Map{Work: []walk.Range{to(0, 1), to(0, 1), to(0, 50)}, Roads: []walk.Road{road(1, 0, 1, 50), road(2, 1, 1, 50), road(2, 0, 1, 50)}}
}

// P1.1, P1.4: a Route may have 64 stops.
func TestLongestRoute(t *testing.T) {
	w := path(list(0, 1, 2), append(slices.Repeat(list(0, 1), 30), 0, 1, 2, 0)...)
	if r, e := walk.Bounds(triangle(), w); len(w.Route) != 64 || r != to(63, 3202) || e != api.OK {
		t.Errorf("Bounds: %v, %v", r, e)
	}
	if n, e := walk.Time(triangle(), w, walk.Truth{Work: list(1, 1, 50), Roads: list(1, 2, 3)}); n != 61+2+3+52 || e != api.OK {
		t.Errorf("Time: %d, %v", n, e)
	}
	a, b, c, e := walk.Faults(triangle(), []walk.Walk{w}, 3202)
	if len(a)+len(b)+len(c) != 0 || e != api.OK {
		t.Errorf("Faults: %v, %v, %v, %v", a, b, c, e)
	}
	if !walk.ProvePlan(triangle(), []walk.Walk{w}, 3202, 1) || walk.ProvePlan(triangle(), []walk.Walk{w}, 3201, 1) {
		t.Error("ProvePlan")
	}
}

// checkWay reports a fault if the way is none between the places, or does not take that long.
func checkWay(t *testing.T, m walk.Map, from, goal int, way []int, longest int) {
	t.Helper()
	if len(way) == 0 || way[0] != from || way[len(way)-1] != goal {
		t.Errorf("Way from %d to %d of %v: %v", from, goal, m, way)
		return
	}
	sum := 0
	for i := 1; i < len(way); i++ {
		r, ok := between(m, way[i-1], way[i])
		if !ok {
			t.Errorf("Way from %d to %d of %v: %v has no road", from, goal, m, way)
			return
		}
		sum += m.Roads[r].Time.Hi
	}
	if sum != longest {
		t.Errorf("Way from %d to %d of %v: %v takes %d, not %d", from, goal, m, way, sum, longest)
	}
}

// P1.2: a quickest way; here there is only one.
func TestWay(t *testing.T) {
	for _, x := range []struct {
		m          walk.Map
		from, goal int
		way        []int
		longest    int
	}{
		{ring(), 0, 2, list(0, 1, 2), 5}, // the chapter's example
		{ring(), 2, 0, list(2, 1, 0), 5},
		{ring(), 3, 1, list(3, 0, 1), 7},
		{ring(), 2, 3, list(2, 3), 6},
		{ring(), 0, 0, list(0), 0},
		{ring(), 3, 3, list(3), 0},
		{island(), 3, 3, list(3), 0},
		{island(), 2, 0, list(2, 1, 0), 5},
		{lane(), 7, 0, list(7, 6, 5, 4, 3, 2, 1, 0), 350},
		{walk.Map{Work: make([]walk.Range, 1)}, 0, 0, list(0), 0},
		// The greatest times count: directly it takes less at best.
		{walk.Map{Work: make([]walk.Range, 3), Roads: []walk.Road{road(0, 2, 1, 9), road(0, 1, 4, 4), road(1, 2, 4, 4)}}, 0, 2, list(0, 1, 2), 8},
	} {
		if way, n, e := walk.Way(x.m, x.from, x.goal); !slices.Equal(way, x.way) || n != x.longest || e != api.OK {
			t.Errorf("Way from %d to %d: %v, %d, %v", x.from, x.goal, way, n, e)
		}
	}
}

// P1.2: TestQuickestWay compares with all ways of many maps.
func TestQuickestWay(t *testing.T) {
	forMaps(t, 8, func(t *testing.T, d *dice, m walk.Map) {
		for from := range m.Work {
			for goal := range m.Work {
				want, found := longestWay(m, from, goal)
				way, n, e := walk.Way(m, from, goal)
				if !found {
					if e != api.ErrNone || len(way) != 0 || n != 0 {
						t.Errorf("Way from %d to %d of %v: %v, %d, %v", from, goal, m, way, n, e)
					}
					continue
				}
				if e != api.OK || n != want {
					t.Errorf("Way from %d to %d of %v: %d, %v, not %d", from, goal, m, n, e, want)
				}
				checkWay(t, m, from, goal, way, n)
			}
		}
	})
}

// checkTour reports a fault if the walk is not a tour of the places that takes that long.
func checkTour(t *testing.T, m walk.Map, places []int, w walk.Walk, longest int) {
	t.Helper()
	_, most := ends(m)
	if !isWalk(m, w) || !slices.Equal(w.Counts, places) || takes(m, w, most) != longest {
		t.Errorf("Tour of %v of %v: %v, %d", places, m, w, longest)
	}
}

// P1.3: a quickest tour.
func TestTour(t *testing.T) {
	for _, x := range []struct {
		m       walk.Map
		places  []int
		longest int
	}{
		{ring(), list(1, 2), 18}, {ring(), list(3), 16}, {ring(), list(0, 1, 2, 3), 34}, // the chapter's examples
		{ring(), nil, 0}, {ring(), []int{}, 0}, {ring(), list(0), 3}, {ring(), list(1), 11}, {ring(), list(2), 13},
		{ring(), list(0, 1), 14}, {ring(), list(0, 2), 16}, {ring(), list(0, 3), 19}, {ring(), list(1, 3), 27}, {ring(), list(2, 3), 26},
		{ring(), list(0, 1, 2), 21}, {ring(), list(1, 2, 3), 31}, {ring(), list(0, 2, 3), 29},
		{island(), list(0, 1, 2), 21}, {island(), nil, 0},
		{lane(), list(0, 1, 2, 3, 4, 5, 6, 7), 1100}, {lane(), list(7), 750},
		{walk.Map{Work: make([]walk.Range, 1)}, list(0), 0},
	} {
		w, n, e := walk.Tour(x.m, x.places)
		if n != x.longest || e != api.OK {
			t.Errorf("Tour of %v: %v, %d, %v", x.places, w, n, e)
		}
		checkTour(t, x.m, x.places, w, n)
	}
}

// P1.3: TestQuickestTour compares with the tours that longestTours finds in many maps.
func TestQuickestTour(t *testing.T) {
	forMaps(t, 8, func(t *testing.T, d *dice, m walk.Map) {
		tours := longestTours(m)
		for range 12 {
			places := d.throwPlaces(m)
			want := tours[bits(places)]
			w, n, e := walk.Tour(m, places)
			if want < 0 {
				if e != api.ErrNone || n != 0 || len(w.Route) != 0 || len(w.Counts) != 0 {
					t.Errorf("Tour of %v of %v: %v, %d, %v", places, m, w, n, e)
				}
				continue
			}
			if e != api.OK || n != want {
				t.Errorf("Tour of %v of %v: %d, %v, not %d", places, m, n, e, want)
			}
			checkTour(t, m, places, w, n)
		}
	})
}

// P1.4: the faults of a plan, and the proof that it has none.
func TestFaultsAndProvePlan(t *testing.T) {
	near, far, rest := path(list(0, 1), 0, 1, 0), path(list(0, 3), 0, 3, 0), path(list(2, 3), 0, 1, 2, 1, 0, 3, 0)
	whole, idle := path(list(0, 1, 2, 3), 0, 1, 2, 3, 0), path(nil, 0)
	for _, x := range []struct {
		plan                 []walk.Walk
		limit                int
		missing, twice, late []int
	}{
		{nil, 5, list(0, 1, 2, 3), nil, nil},
		{[]walk.Walk{}, 0, list(0, 1, 2, 3), nil, nil},
		{[]walk.Walk{idle}, 0, list(0, 1, 2, 3), nil, nil},
		{[]walk.Walk{whole}, 34, nil, nil, nil},
		{[]walk.Walk{whole}, 33, nil, nil, list(0)},
		{[]walk.Walk{whole}, 0, nil, nil, list(0)},
		{[]walk.Walk{whole}, 10000, nil, nil, nil},
		{[]walk.Walk{near}, 14, list(2, 3), nil, nil},
		{[]walk.Walk{near, far}, 18, list(2), list(0), list(1)},
		{[]walk.Walk{far, near}, 18, list(2), list(0), list(0)},
		{[]walk.Walk{near, rest}, 29, nil, nil, nil},
		{[]walk.Walk{near, rest}, 28, nil, nil, list(1)},
		{[]walk.Walk{near, near, near, far}, 13, list(2), list(0, 1), list(0, 1, 2, 3)},
		{[]walk.Walk{whole, whole}, 34, nil, list(0, 1, 2, 3), nil},
		{[]walk.Walk{whole, idle, whole, whole}, 33, nil, list(0, 1, 2, 3), list(0, 2, 3)},
		{[]walk.Walk{idle, near, idle, idle, rest, idle, idle, idle}, 29, nil, nil, nil},
		{[]walk.Walk{idle, near, idle, idle, idle, idle, idle, rest}, 28, nil, nil, list(7)},
	} {
		a, b, c, e := walk.Faults(ring(), x.plan, x.limit)
		if !slices.Equal(a, x.missing) || !slices.Equal(b, x.twice) || !slices.Equal(c, x.late) || e != api.OK {
			t.Errorf("Faults of %v for %d: %v, %v, %v, %v", x.plan, x.limit, a, b, c, e)
		}
		right := len(x.missing)+len(x.twice)+len(x.late) == 0
		for _, many := range []int{-1, 0, len(x.plan) - 1, len(x.plan), len(x.plan) + 1, 8, 9, 1 << 40} {
			if ok := walk.ProvePlan(ring(), x.plan, x.limit, many); ok != (right && len(x.plan) <= many) {
				t.Errorf("ProvePlan of %v for %d and %d: %v", x.plan, x.limit, many, ok)
			}
		}
	}
}

// P1.4: TestAnyPlan compares with the definition of what is right, for any walks.
func TestAnyPlan(t *testing.T) {
	proved := 0
	forMaps(t, 4, func(t *testing.T, d *dice, m walk.Map) {
		for range 40 {
			var plan []walk.Walk
			for range d.upTo(3) {
				plan = append(plan, d.throwWalk(m))
			}
			limit, many := d.upTo(120), d.upTo(4)
			right := isRight(m, plan, limit) && len(plan) <= many
			if ok := walk.ProvePlan(m, plan, limit, many); ok != right {
				t.Errorf("ProvePlan of %v for %d and %d in %v: %v", plan, limit, many, m, ok)
			}
			if right {
				proved++
			}
		}
	})
	if proved < 20 {
		t.Errorf("only %d plans are right", proved)
	}
}

// P1.5: the places that are reached for themselves.
func TestReach(t *testing.T) {
	for _, x := range []struct {
		m     walk.Map
		limit int
		want  []int
	}{
		{ring(), 13, list(0, 1, 2)}, // the chapter's example
		{ring(), 0, nil}, {ring(), 2, nil}, {ring(), 3, list(0)}, {ring(), 10, list(0)}, {ring(), 11, list(0, 1)}, {ring(), 12, list(0, 1)}, {ring(), 15, list(0, 1, 2)}, {ring(), 16, list(0, 1, 2, 3)}, {ring(), 10000, list(0, 1, 2, 3)},
		{island(), 10000, list(0, 1, 2)},
		{walk.Map{Work: make([]walk.Range, 2)}, 0, list(0)},
		{walk.Map{Work: []walk.Range{to(9, 9), to(0, 0)}, Roads: []walk.Road{road(1, 0, 1, 2)}}, 4, list(1)}, // not even the office
		{lane(), 749, list(0, 1, 2, 3, 4, 5, 6)}, {lane(), 750, list(0, 1, 2, 3, 4, 5, 6, 7)},
	} {
		if l, e := walk.Reach(x.m, x.limit); !slices.Equal(l, x.want) || e != api.OK {
			t.Errorf("Reach for %d: %v, %v", x.limit, l, e)
		}
	}
}

// checkPlan checks Plan and Fewest for a limit for which that many walks are the fewest (0, if no plan is right).
func checkPlan(t *testing.T, m walk.Map, limit, many int) {
	t.Helper()
	want := api.OK
	if many == 0 {
		want = api.ErrFail
	}
	plan, e := walk.Plan(m, limit)
	n, f := walk.Fewest(m, limit)
	if e != want || f != want || n != many || len(plan) != many {
		t.Errorf("Plan, Fewest for %d of %v: %v, %v; %d, %v, not %d", limit, m, plan, e, n, f, many)
		return
	}
	if many > 0 && !isRight(m, plan, limit) {
		t.Errorf("Plan for %d of %v: %v is not right", limit, m, plan)
	}
	if many > 0 && (!walk.ProvePlan(m, plan, limit, n) || walk.ProvePlan(m, plan, limit, n-1)) {
		t.Errorf("ProvePlan for %d of %v: %v", limit, m, plan)
	}
}

// P1.6: a right plan with the fewest walks.
func TestPlanAndFewest(t *testing.T) {
	office := walk.Map{Work: []walk.Range{to(0, 5)}}
	for _, x := range []struct {
		m           walk.Map
		limit, many int
	}{
		{ring(), 34, 1}, {ring(), 33, 2}, {ring(), 16, 3}, {ring(), 15, 0}, // the chapter's examples
		{ring(), 10000, 1}, {ring(), 19, 2}, {ring(), 18, 3}, {ring(), 0, 0},
		{island(), 10000, 0},
		{office, 5, 1}, {office, 4, 0}, {office, 0, 0}, {walk.Map{Work: make([]walk.Range, 1)}, 0, 1},
		{lane(), 1100, 1}, {lane(), 1099, 2}, {lane(), 750, 3}, {lane(), 749, 0},
		{walk.Map{Work: slices.Repeat([]walk.Range{to(50, 50)}, 8), Roads: star()}, 52, 8},
		{walk.Map{Work: slices.Repeat([]walk.Range{to(50, 50)}, 8), Roads: star()}, 51, 0},
	} {
		checkPlan(t, x.m, x.limit, x.many)
	}
}

// star joins the office with seven places.
func star() []walk.Road {
	var roads []walk.Road
	for place := 1; place < 8; place++ {
		roads = append(roads, road(0, place, 1, 1))
	}
	return roads
}

// fewestOf finds the fewest walks for a limit by the smallest limits of 1, 2 .. walks.
func fewestOf(least []int, limit int) int {
	for i, n := range least {
		if n >= 0 && n <= limit {
			return i + 1
		}
	}
	return 0
}

// P1.6: TestFewestOfAll compares with all divisions of the places of many maps, around each limit at which the fewest walks are others.
func TestFewestOfAll(t *testing.T) {
	forMaps(t, 6, func(t *testing.T, d *dice, m walk.Map) {
		least := leastLimits(m)
		limits := list(0, 10000, d.upTo(150))
		for _, n := range least {
			if n >= 0 {
				limits = append(limits, max(n-1, 0), n, n+1)
			}
		}
		for _, limit := range limits {
			checkPlan(t, m, limit, fewestOf(least, limit))
		}
	})
}

// P1.7: the smallest limit for some walks.
func TestLeast(t *testing.T) {
	for _, x := range []struct {
		m          walk.Map
		many, want int
	}{
		{ring(), 1, 34}, {ring(), 2, 19}, {ring(), 3, 16}, // the chapter's examples
		{ring(), 4, 16}, {ring(), 8, 16},
		{walk.Map{Work: make([]walk.Range, 1)}, 1, 0}, {walk.Map{Work: make([]walk.Range, 1)}, 8, 0},
		{walk.Map{Work: []walk.Range{to(3, 50)}}, 1, 50},
		{lane(), 1, 1100}, {lane(), 2, 800}, {lane(), 8, 750},
		{walk.Map{Work: slices.Repeat([]walk.Range{to(50, 50)}, 8), Roads: star()}, 8, 52},
		{walk.Map{Work: slices.Repeat([]walk.Range{to(50, 50)}, 8), Roads: star()}, 7, 102},
	} {
		if n, e := walk.Least(x.m, x.many); n != x.want || e != api.OK {
			t.Errorf("Least of %d: %d, %v, not %d", x.many, n, e, x.want)
		}
	}
}

// P1.7: TestLeastOfAll compares with all divisions of the places of many maps.
func TestLeastOfAll(t *testing.T) {
	check := func(t *testing.T, d *dice, m walk.Map) {
		least := leastLimits(m)
		for many := 1; many <= 8; many++ {
			want, e := least[min(many, len(least))-1], api.OK
			if want < 0 {
				want, e = 0, api.ErrNone
			}
			if n, f := walk.Least(m, many); n != want || f != e {
				t.Errorf("Least of %d of %v: %d, %v, not %d, %v", many, m, n, f, want, e)
			}
		}
	}
	forMaps(t, 6, check)
	for _, m := range []walk.Map{lane(), largest()} {
		check(t, nil, m)
	}
}
