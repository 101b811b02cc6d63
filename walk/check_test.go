package walk_test

import (
	"math"
	"slices"
	"testing"

	"tithing/api"
	"tithing/walk"
)

// changed returns the ring of the examples after a change.
func changed(change func(m *walk.Map)) walk.Map {
	m := ring()
	change(&m)
	return m
}

// wrongMaps are not valid, with their errors.
func wrongMaps() map[string]struct {
	m walk.Map
	e api.Errno
} {
	type row = struct {
		m walk.Map
		e api.Errno
	}
	work := func(place int, r walk.Range) row {
		return row{changed(func(m *walk.Map) { m.Work[place] = r }), api.ErrArg}
	}
	set := func(i int, r walk.Road) row {
		return row{changed(func(m *walk.Map) { m.Roads[i] = r }), api.ErrArg}
	}
	more := func(r walk.Road) row {
		return row{changed(func(m *walk.Map) { m.Roads = append(m.Roads, r) }), api.ErrArg}
	}
	return map[string]row{
		"9 places":                     {walk.Map{Work: make([]walk.Range, 9)}, api.ErrLimit},
		"9 places, none right":         {walk.Map{Work: slices.Repeat([]walk.Range{to(3, 2)}, 9)}, api.ErrLimit},
		"21 roads":                     {walk.Map{Work: make([]walk.Range, 8), Roads: slices.Concat(largest().Roads, []walk.Road{road(7, 1, 1, 1)})}, api.ErrLimit},
		"21 roads, none right":         {walk.Map{Work: make([]walk.Range, 1), Roads: make([]walk.Road, 21)}, api.ErrLimit},
		"21 roads, no place":           {walk.Map{Roads: make([]walk.Road, 21)}, api.ErrLimit},
		"no place":                     {walk.Map{}, api.ErrArg},
		"no place, empty lists":        {walk.Map{Work: []walk.Range{}, Roads: []walk.Road{}}, api.ErrArg},
		"no place, a road":             {walk.Map{Roads: []walk.Road{road(0, 1, 1, 1)}}, api.ErrArg},
		"work below 0":                 work(0, to(-1, 2)),
		"work above 50":                work(3, to(50, 51)),
		"work falls":                   work(1, to(3, 2)),
		"work is least":                work(1, to(math.MinInt, math.MinInt)),
		"work is most":                 work(1, to(math.MinInt, math.MaxInt)),
		"time 0":                       set(0, road(0, 1, 0, 3)),
		"time 0 only":                  set(0, road(0, 1, 0, 0)),
		"time above 50":                set(3, road(2, 3, 50, 51)),
		"time falls":                   set(1, road(1, 2, 2, 1)),
		"time is most":                 set(1, road(1, 2, 1, math.MaxInt)),
		"A below 0":                    set(0, road(-1, 1, 1, 1)),
		"A not a place":                set(0, road(4, 1, 1, 1)),
		"B below 0":                    set(0, road(0, -1, 1, 1)),
		"B not a place":                set(0, road(0, 4, 1, 1)),
		"A is most":                    set(0, road(math.MaxInt, math.MinInt, 1, 1)),
		"from the office to itself":    set(0, road(0, 0, 1, 1)),
		"from the last to itself":      set(3, road(3, 3, 1, 1)),
		"a road again":                 more(road(0, 1, 2, 3)),
		"a road again in other time":   more(road(2, 3, 1, 1)),
		"a road again, other way":      more(road(1, 0, 1, 1)),
		"the last road again, one way": more(road(3, 2, 5, 6)),
	}
}

// P1.1: the error of the map, or OK.
func TestCheckMap(t *testing.T) {
	for name, x := range wrongMaps() {
		if e := walk.CheckMap(x.m); e != x.e {
			t.Errorf("%s: %v, not %v", name, e, x.e)
		}
	}
	for name, m := range map[string]walk.Map{
		"the example":        ring(),
		"a place not joined": island(),
		"only the office":    {Work: []walk.Range{to(0, 0)}},
		"8 places, 20 roads": largest(),
		"8 in a row":         lane(),
		"empty roads":        {Work: []walk.Range{to(0, 50), to(50, 50)}, Roads: []walk.Road{}},
		"A above B":          {Work: make([]walk.Range, 2), Roads: []walk.Road{road(1, 0, 1, 50)}},
	} {
		if e := walk.CheckMap(m); e != api.OK {
			t.Errorf("%s: %v", name, e)
		}
	}
}

// calls are all calls with an error: each returns it, and whether its other results are zero.
func calls(m walk.Map) map[string]func() (api.Errno, bool) {
	long := walk.Walk{Route: make([]int, 65)}
	return map[string]func() (api.Errno, bool){
		"Time": func() (api.Errno, bool) { n, e := walk.Time(m, long, walk.Truth{}); return e, n == 0 },
		"Bounds": func() (api.Errno, bool) {
			r, e := walk.Bounds(m, long)
			return e, r == walk.Range{}
		},
		"Way": func() (api.Errno, bool) {
			way, n, e := walk.Way(m, -1, 9)
			return e, len(way) == 0 && n == 0
		},
		"Tour": func() (api.Errno, bool) {
			w, n, e := walk.Tour(m, list(9))
			return e, len(w.Route) == 0 && len(w.Counts) == 0 && n == 0
		},
		"Faults": func() (api.Errno, bool) {
			a, b, c, e := walk.Faults(m, []walk.Walk{long}, -1)
			return e, len(a)+len(b)+len(c) == 0
		},
		"Reach":  func() (api.Errno, bool) { l, e := walk.Reach(m, -1); return e, len(l) == 0 },
		"Plan":   func() (api.Errno, bool) { l, e := walk.Plan(m, -1); return e, len(l) == 0 },
		"Fewest": func() (api.Errno, bool) { n, e := walk.Fewest(m, -1); return e, n == 0 },
		"Least":  func() (api.Errno, bool) { n, e := walk.Least(m, 0); return e, n == 0 },
	}
}

// TestWrongMap: the error of the map comes before those of all other arguments, which are wrong here too.
func TestWrongMap(t *testing.T) {
	for name, x := range wrongMaps() {
		for call, f := range calls(x.m) {
			if e, zero := f(); e != x.e || !zero {
				t.Errorf("%s of a map with %s: %v, not %v; zero: %v", call, name, e, x.e, zero)
			}
		}
		if walk.ProvePlan(x.m, []walk.Walk{path(list(0), 0)}, 10000, 8) || walk.ProvePlan(x.m, nil, 10000, 8) {
			t.Errorf("ProvePlan of a map with %s", name)
		}
	}
}

// wrongWalks are no walks of the ring, with their errors.
func wrongWalks() map[string]struct {
	w walk.Walk
	e api.Errno
} {
	return map[string]struct {
		w walk.Walk
		e api.Errno
	}{
		"no stop":                   {path(nil), api.ErrRange},
		"no stop, a count":          {path(list(0)), api.ErrRange},
		"not from the office":       {path(nil, 1, 0), api.ErrRange},
		"not to the office":         {path(nil, 0, 1), api.ErrRange},
		"only another place":        {path(nil, 1), api.ErrRange},
		"no road":                   {path(nil, 0, 2, 0), api.ErrRange},
		"no road home":              {path(nil, 0, 1, 2, 0), api.ErrRange},
		"stays at a place":          {path(nil, 0, 0), api.ErrRange},
		"stays at another place":    {path(nil, 0, 1, 1, 0), api.ErrRange},
		"place 4":                   {path(nil, 0, 4, 0), api.ErrRange},
		"place -1":                  {path(nil, 0, -1, 0), api.ErrRange},
		"the greatest place":        {path(nil, 0, math.MaxInt, 0), api.ErrRange},
		"counts another place":      {path(list(2), 0, 1, 0), api.ErrRange},
		"counts one of two":         {path(list(1, 3), 0, 1, 2, 1, 0), api.ErrRange},
		"counts place 4":            {path(list(4), 0, 1, 0), api.ErrRange},
		"counts place -1":           {path(list(-1, 0), 0, 1, 0), api.ErrRange},
		"counts the greatest place": {path(list(math.MaxInt), 0, 1, 0), api.ErrRange},
		"counts twice":              {path(list(1, 1), 0, 1, 0), api.ErrRange},
		"counts fall":               {path(list(1, 0), 0, 1, 0), api.ErrRange},
		"counts fall at the end":    {path(list(0, 2, 1), 0, 1, 2, 1, 0), api.ErrRange},
		"65 stops":                  {path(nil, append(slices.Repeat(list(0, 1), 32), 0)...), api.ErrLimit},
		"65 stops, no walk":         {path(list(7, 7), make([]int, 65)...), api.ErrLimit},
		"66 stops, no walk":         {path(nil, make([]int, 66)...), api.ErrLimit},
	}
}

func TestWrongWalk(t *testing.T) {
	_, right := ends(ring())
	for name, x := range wrongWalks() {
		for _, truth := range []walk.Truth{right, {}} {
			if n, e := walk.Time(ring(), x.w, truth); n != 0 || e != x.e {
				t.Errorf("Time, %s: %d, %v", name, n, e)
			}
		}
		if r, e := walk.Bounds(ring(), x.w); r != to(0, 0) || e != x.e {
			t.Errorf("Bounds, %s: %v, %v", name, r, e)
		}
		whole := path(list(0, 1, 2, 3), 0, 1, 2, 3, 0)
		for _, plan := range [][]walk.Walk{{x.w}, {x.w, whole}, {whole, x.w}} {
			a, b, c, e := walk.Faults(ring(), plan, 100)
			if len(a)+len(b)+len(c) != 0 || e != x.e {
				t.Errorf("Faults, %s: %v, %v, %v, %v", name, a, b, c, e)
			}
			if walk.ProvePlan(ring(), plan, 10000, 8) {
				t.Errorf("ProvePlan, %s", name)
			}
		}
	}
}

func TestWrongTruth(t *testing.T) {
	for name, change := range map[string]func(t *walk.Truth){
		"empty":              func(t *walk.Truth) { *t = walk.Truth{} },
		"work missing":       func(t *walk.Truth) { t.Work = t.Work[:3] },
		"work too much":      func(t *walk.Truth) { t.Work = append(t.Work, 1) },
		"time missing":       func(t *walk.Truth) { t.Roads = t.Roads[:3] },
		"time too much":      func(t *walk.Truth) { t.Roads = append(t.Roads, 4) },
		"first work below":   func(t *walk.Truth) { t.Work[0] = 1 },
		"first work above":   func(t *walk.Truth) { t.Work[0] = 4 },
		"last work below":    func(t *walk.Truth) { t.Work[3] = 5 },
		"last work above":    func(t *walk.Truth) { t.Work[3] = 9 },
		"first time below":   func(t *walk.Truth) { t.Roads[0] = 1 },
		"first time above":   func(t *walk.Truth) { t.Roads[0] = 4 },
		"last time below":    func(t *walk.Truth) { t.Roads[3] = 4 },
		"last time above":    func(t *walk.Truth) { t.Roads[3] = 7 },
		"the greatest time":  func(t *walk.Truth) { t.Roads[2] = math.MaxInt },
		"the smallest work":  func(t *walk.Truth) { t.Work[2] = math.MinInt },
		"work and times for": func(t *walk.Truth) { t.Work, t.Roads = t.Roads, t.Work },
	} {
		truth := walk.Truth{Work: list(2, 5, 3, 7), Roads: list(3, 1, 4, 6)}
		change(&truth)
		// The office alone needs none of these numbers, and yet the truth has to be one of the map.
		for _, w := range []walk.Walk{path(nil, 0), path(list(0, 1, 2, 3), 0, 1, 2, 3, 0)} {
			if n, e := walk.Time(ring(), w, truth); n != 0 || e != api.ErrRange {
				t.Errorf("%s: %d, %v", name, n, e)
			}
		}
	}
}

func TestWrongPlaces(t *testing.T) {
	for _, x := range [][2]int{{0, 4}, {4, 0}, {-1, 0}, {0, -1}, {4, 4}, {-1, -1}, {math.MaxInt, 0}, {0, math.MinInt}} {
		for _, m := range []walk.Map{ring(), island()} {
			if way, n, e := walk.Way(m, x[0], x[1]); len(way) != 0 || n != 0 || e != api.ErrRange {
				t.Errorf("Way %v: %v, %d, %v", x, way, n, e)
			}
		}
	}
	for _, places := range [][]int{list(4), list(-1), list(0, 4), list(-1, 0), list(2, 1), list(0, 2, 1), list(1, 1), list(0, 0), list(3, 3), list(3, 1), list(0, 1, 2, 3, 4), list(math.MinInt), list(math.MaxInt), make([]int, 100)} {
		for _, m := range []walk.Map{ring(), island()} {
			if w, n, e := walk.Tour(m, places); len(w.Route) != 0 || len(w.Counts) != 0 || n != 0 || e != api.ErrRange {
				t.Errorf("Tour of %v: %v, %d, %v", places, w, n, e)
			}
		}
	}
}

func TestWrongPlan(t *testing.T) {
	long, wrong, home := path(nil, make([]int, 65)...), path(nil, 0, 2, 0), path(nil, 0)
	for _, x := range []struct {
		plan  []walk.Walk
		limit int
		e     api.Errno
	}{
		{make([]walk.Walk, 9), 5, api.ErrLimit},
		{slices.Repeat([]walk.Walk{home}, 9), 5, api.ErrLimit},
		{slices.Repeat([]walk.Walk{home}, 9), -1, api.ErrLimit},
		{[]walk.Walk{wrong, long}, 5, api.ErrLimit},
		{[]walk.Walk{wrong, home, long}, -1, api.ErrLimit},
		{[]walk.Walk{home, wrong}, 5, api.ErrRange},
		{make([]walk.Walk, 8), 5, api.ErrRange},
		{[]walk.Walk{home}, -1, api.ErrRange},
		{[]walk.Walk{home}, 10001, api.ErrRange},
		{nil, math.MinInt, api.ErrRange},
		{nil, math.MaxInt, api.ErrRange},
		{slices.Repeat([]walk.Walk{home}, 8), 0, api.OK},
		{[]walk.Walk{home}, 10000, api.OK},
	} {
		a, b, c, e := walk.Faults(ring(), x.plan, x.limit)
		if e != x.e || e != api.OK && len(a)+len(b)+len(c) != 0 {
			t.Errorf("Faults of %v for %d: %v, %v, %v, %v", x.plan, x.limit, a, b, c, e)
		}
		if walk.ProvePlan(ring(), x.plan, x.limit, 100) {
			t.Errorf("ProvePlan of %v for %d", x.plan, x.limit)
		}
	}
}

func TestWrongLimit(t *testing.T) {
	for _, limit := range []int{-1, 10001, math.MinInt, math.MaxInt} {
		for _, m := range []walk.Map{ring(), island()} {
			if l, e := walk.Reach(m, limit); len(l) != 0 || e != api.ErrRange {
				t.Errorf("Reach for %d: %v, %v", limit, l, e)
			}
			if l, e := walk.Plan(m, limit); len(l) != 0 || e != api.ErrRange {
				t.Errorf("Plan for %d: %v, %v", limit, l, e)
			}
			if n, e := walk.Fewest(m, limit); n != 0 || e != api.ErrRange {
				t.Errorf("Fewest for %d: %d, %v", limit, n, e)
			}
		}
	}
	for _, many := range []int{0, -1, 9, math.MinInt, math.MaxInt} {
		for _, m := range []walk.Map{ring(), island()} {
			if n, e := walk.Least(m, many); n != 0 || e != api.ErrRange {
				t.Errorf("Least of %d: %d, %v", many, n, e)
			}
		}
	}
}

// TestNone: what cannot be reached has no way, no tour, no plan and no limit.
func TestNone(t *testing.T) {
	for _, x := range [][2]int{{0, 3}, {3, 0}, {2, 3}, {3, 1}} {
		if way, n, e := walk.Way(island(), x[0], x[1]); len(way) != 0 || n != 0 || e != api.ErrNone {
			t.Errorf("Way %v: %v, %d, %v", x, way, n, e)
		}
	}
	for _, places := range [][]int{list(3), list(0, 3), list(1, 3), list(0, 1, 2, 3)} {
		if w, n, e := walk.Tour(island(), places); len(w.Route) != 0 || len(w.Counts) != 0 || n != 0 || e != api.ErrNone {
			t.Errorf("Tour of %v: %v, %d, %v", places, w, n, e)
		}
	}
	for _, x := range []struct {
		m     walk.Map
		limit int
	}{{ring(), 15}, {ring(), 0}, {island(), 0}, {island(), 10000}} {
		if l, e := walk.Plan(x.m, x.limit); len(l) != 0 || e != api.ErrFail {
			t.Errorf("Plan for %d: %v, %v", x.limit, l, e)
		}
		if n, e := walk.Fewest(x.m, x.limit); n != 0 || e != api.ErrFail {
			t.Errorf("Fewest for %d: %d, %v", x.limit, n, e)
		}
	}
	for many := 1; many <= 8; many++ {
		if n, e := walk.Least(island(), many); n != 0 || e != api.ErrNone {
			t.Errorf("Least of %d: %d, %v", many, n, e)
		}
	}
}
