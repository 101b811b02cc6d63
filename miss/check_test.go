package miss_test

import (
	"math"
	"slices"
	"testing"

	"tithing/api"
	"tithing/miss"
)

// wrongAreas are not as described.
func wrongAreas() map[string]miss.Area {
	out := map[string]miss.Area{
		"more persons than there can be":     area(10, 41, 4, 3),
		"one more missed":                    area(0, 51, 0, 0),
		"one more listed":                    area(51, 0, 4, 3),
		"both are too many":                  area(51, 51, 4, 3),
		"sums that do not fit":               area(math.MaxInt, math.MaxInt, 4, 3),
		"a sum that does not fit":            area(math.MaxInt, 1, 4, 3),
		"a sum that does not fit either":     area(1, math.MaxInt, 1, 1),
		"listed and others that add up":      area(51, -1, 4, 3),
		"others and listed that add up":      area(-1, 51, 0, 0),
		"nobody listed, and one sampled":     area(0, 5, 1, 0),
		"more sampled than listed":           area(10, 5, 11, 3),
		"more sampled than listed, all":      area(10, 5, 15, 10),
		"more found than sampled":            area(10, 5, 4, 5),
		"more found than sampled and listed": area(4, 5, 4, 5),
		"nobody sampled, and one found":      area(10, 5, 0, 1),
		"below nobody sampled":               area(10, 5, -1, -1),
		"below nobody found":                 area(10, 5, 4, -1),
		"below nobody found or sampled":      area(10, 5, -1, -2),
	}
	for what, n := range map[string]int{"-1": -1, "the smallest": math.MinInt, "the greatest": math.MaxInt} {
		out["Listed "+what] = area(n, 5, 0, 0)
		out["Most "+what] = area(10, n, 4, 3)
		out["Sample "+what] = area(10, 5, n, 0)
		out["Found "+what] = area(10, 5, 4, n)
		out["all "+what] = area(n, n, n, n)
	}
	return out
}

func wrongLevels() []miss.Fraction {
	return []miss.Fraction{
		{}, over(1, 0), over(-1, 0), over(-1, 5), over(-1, 1000), over(6, 5), over(2, 1), over(1001, 1000), over(0, 1001), over(1, 1001), over(1001, 1001), over(500, 2000),
		over(0, -1), over(1, -1), over(-1, -1), over(-1, -2), over(-2, -1), over(math.MinInt, 1), over(math.MaxInt, 1), over(0, math.MinInt), over(0, math.MaxInt), over(math.MaxInt, math.MaxInt), over(math.MinInt, math.MinInt),
	}
}

func wrongMissed(most int) []int {
	return list(-1, most+1, most+2, 50, 51, math.MinInt, math.MaxInt)
}

// calls are all calls with an area but CheckArea: each returns its error, and whether its other result is zero.
func calls(a miss.Area, missed int, level miss.Fraction) map[string]func() (api.Errno, bool) {
	return map[string]func() (api.Errno, bool){
		"Chance":        func() (api.Errno, bool) { f, e := miss.Chance(a, missed); return e, f == miss.Fraction{} },
		"Tail":          func() (api.Errno, bool) { f, e := miss.Tail(a, missed, false); return e, f == miss.Fraction{} },
		"Tail, at most": func() (api.Errno, bool) { f, e := miss.Tail(a, missed, true); return e, f == miss.Fraction{} },
		"Likely":        func() (api.Errno, bool) { l, e := miss.Likely(a); return e, len(l) == 0 },
		"Missed":        func() (api.Errno, bool) { r, e := miss.Missed(a, level); return e, r == to(0, 0) },
		"Total":         func() (api.Errno, bool) { r, e := miss.Total(areas(a), level); return e, r == to(0, 0) },
		"Total of two":  func() (api.Errno, bool) { r, e := miss.Total(areas(ten(3), a), level); return e, r == to(0, 0) },
	}
}

// P6.1: numbers of things that are too low or too high.
func TestWrongWays(t *testing.T) {
	for _, wrong := range list(-1, 61, 100, math.MinInt, math.MaxInt) {
		for _, n := range list(0, 1, 30, 60, -1, 61) {
			if many, e := miss.Ways(wrong, n); many != 0 || e != api.ErrRange {
				t.Errorf("Ways of %d, %d: %d, %v", wrong, n, many, e)
			}
			if many, e := miss.Ways(n, wrong); many != 0 || e != api.ErrRange {
				t.Errorf("Ways of %d, %d: %d, %v", n, wrong, many, e)
			}
		}
	}
}

// P6.1 to P6.4: that an area is not as described comes before all else but too many areas.
func TestWrongAreas(t *testing.T) {
	for what, a := range wrongAreas() {
		if e := miss.CheckArea(a); e != api.ErrArg {
			t.Errorf("CheckArea, %s: %v", what, e)
		}
		for _, missed := range list(0, 1, -1, 51, math.MinInt, math.MaxInt) {
			for _, level := range []miss.Fraction{over(0, 1), over(1, 2), over(1, 1), over(2, 1), {}} {
				for call, f := range calls(a, missed, level) {
					if e, zero := f(); e != api.ErrArg || !zero {
						t.Errorf("%s, %s: %v; zero: %v", call, what, e, zero)
					}
				}
			}
		}
	}
}

// P6.2: numbers of missed persons that are not from 0 to Most.
func TestWrongMissed(t *testing.T) {
	for _, a := range areas(ten(3), ten(4), three(), miss.Area{}, area(20, 3, 10, 10), area(50, 0, 25, 3)) {
		for _, missed := range wrongMissed(a.Most) {
			for call, f := range calls(a, missed, over(1, 2)) {
				e, zero := f()
				if due := call == "Chance" || call == "Tail" || call == "Tail, at most"; due && (e != api.ErrRange || !zero) {
					t.Errorf("%s of %v for %d: %v; zero: %v", call, a, missed, e, zero)
				}
			}
		}
		if _, e := miss.Chance(a, a.Most); e != api.OK {
			t.Errorf("Chance of %v: %v", a, e)
		}
	}
}

// P6.4: levels that are none, which comes before all numbers being excluded.
func TestWrongLevels(t *testing.T) {
	for _, level := range wrongLevels() {
		for _, a := range areas(ten(3), ten(4), miss.Area{}, area(4, 1, 3, 1)) {
			if r, e := miss.Missed(a, level); r != to(0, 0) || e != api.ErrRange {
				t.Errorf("Missed of %v by %v: %v, %v", a, level, r, e)
			}
		}
		for _, l := range [][]miss.Area{nil, {}, areas(ten(4)), areas(ten(3), ten(4)), areas(area(4, 1, 3, 1), ten(4)), make([]miss.Area, 6)} {
			if r, e := miss.Total(l, level); r != to(0, 0) || e != api.ErrRange {
				t.Errorf("Total of %v by %v: %v, %v", l, level, r, e)
			}
		}
	}
	for _, level := range levels() {
		if r, e := miss.Total(nil, level); r != to(0, 0) || e != api.OK {
			t.Errorf("Total of nothing by %v: %v, %v", level, r, e)
		}
	}
}

// P6.4: each question is asked for all areas before the next one.
func TestWrongTotals(t *testing.T) {
	wrong, fails := ten(5), area(4, 1, 3, 1)
	for _, x := range []struct {
		l     []miss.Area
		level miss.Fraction
		e     api.Errno
	}{
		{make([]miss.Area, 7), over(1, 2), api.ErrLimit}, {make([]miss.Area, 7), over(2, 1), api.ErrLimit}, {make([]miss.Area, 1000), over(1, 2), api.ErrLimit}, {slices.Repeat(areas(wrong), 7), over(2, 1), api.ErrLimit}, {slices.Repeat(areas(fails), 7), over(1, 2), api.ErrLimit}, {append(make([]miss.Area, 6), wrong), over(1, 2), api.ErrLimit},
		{append(make([]miss.Area, 5), wrong), over(1, 2), api.ErrArg}, {areas(fails, wrong), over(1, 2), api.ErrArg}, {areas(wrong, fails), over(1, 2), api.ErrArg}, {areas(fails, ten(3), wrong), over(2, 1), api.ErrArg}, {areas(ten(4), wrong), over(1, 1001), api.ErrArg},
		{areas(fails, ten(4)), over(2, 1), api.ErrRange}, {areas(ten(4), fails), over(1, 0), api.ErrRange},
		{areas(ten(4), fails), over(1, 2), api.ErrFail}, {areas(fails, ten(4)), over(1, 2), api.ErrFail}, {append(make([]miss.Area, 5), fails), over(1, 1000), api.ErrFail}, {areas(fails), over(1, 1000), api.ErrFail}, {append(make([]miss.Area, 5), fails), over(0, 1000), api.OK},
	} {
		if r, e := miss.Total(x.l, x.level); e != x.e || e != api.OK && r != to(0, 0) {
			t.Errorf("Total of %v by %v: %v, %v, not %v", x.l, x.level, r, e, x.e)
		}
	}
}

// P6.5: persons who cannot be, and levels that are none, which come before samples that are not large enough.
func TestWrongEnough(t *testing.T) {
	check := func(listed, most, missed int, level miss.Fraction) {
		t.Helper()
		if n, e := miss.Enough(listed, most, missed, level); n != 0 || e != api.ErrRange {
			t.Errorf("Enough of %d, %d, %d, %v: %d, %v", listed, most, missed, level, n, e)
		}
	}
	for _, level := range []miss.Fraction{over(0, 1), over(1, 2), over(1, 1)} {
		for _, x := range [][2]int{{-1, 5}, {5, -1}, {-1, 51}, {51, -1}, {51, 0}, {0, 51}, {10, 41}, {26, 25}, {25, 26}, {math.MinInt, 5}, {5, math.MinInt}, {math.MaxInt, 5}, {5, math.MaxInt}, {math.MaxInt, math.MaxInt}, {math.MinInt, math.MinInt}, {math.MinInt, math.MaxInt}} {
			for _, missed := range list(0, 1, -1, x[1]) {
				check(x[0], x[1], missed, level)
			}
		}
		for _, most := range list(0, 1, 5, 40) {
			for _, missed := range wrongMissed(most) {
				check(10, most, missed, level)
				check(0, most, missed, level)
			}
		}
	}
	for _, level := range wrongLevels() {
		check(10, 5, 2, level)
		check(10, 5, 0, level)
		check(0, 0, 0, level)
		check(10, 5, 6, level)
	}
}

// P6.6: persons and lots that are too many, or below 0.
func TestWrongDraws(t *testing.T) {
	for _, x := range []struct {
		n    int
		lots []int
	}{
		{-1, nil}, {51, nil}, {100, list(1)}, {math.MinInt, nil}, {math.MaxInt, nil}, {-1, list(0)}, {51, list(0)},
		{0, list(0)}, {1, list(0, 0)}, {3, list(1, 1, 1, 1)}, {50, make([]int, 51)}, {3, make([]int, 1000)}, {3, list(-1, -1, -1, -1)},
		{3, list(-1)}, {3, list(1, -1)}, {3, list(-1, 1)}, {3, list(1, 1, -3)}, {3, list(math.MinInt)}, {50, append(make([]int, 49), -1)}, {0, list(-1)},
	} {
		if l, e := miss.Draw(x.n, x.lots); len(l) != 0 || e != api.ErrRange {
			t.Errorf("Draw of %d by %v: %v, %v", x.n, x.lots, l, e)
		}
	}
}
