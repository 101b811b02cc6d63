package border_test

import (
	"math"
	"slices"
	"testing"

	"tithing/api"
	"tithing/border"
)

// call is one of the package's calls: it returns the error, and whether all else is zero.
type call func() (e api.Errno, zero bool)

// callsOf returns all calls with a map, but Best.
func callsOf(m border.Map) map[string]call {
	return map[string]call{
		"CheckMap": func() (api.Errno, bool) { return border.CheckMap(m), true },
		"Carry":    func() (api.Errno, bool) { s, d, e := border.Carry(m); return e, len(s)+len(d) == 0 },
		"Streets":  func() (api.Errno, bool) { l, e := border.Streets(m); return e, len(l) == 0 },
		"Bounds":   func() (api.Errno, bool) { l, e := border.Bounds(m); return e, len(l) == 0 },
		"Off":      func() (api.Errno, bool) { l, e := border.Off(m); return e, len(l) == 0 },
		"Apart":    func() (api.Errno, bool) { l, e := border.Apart(m); return e, len(l) == 0 },
	}
}

// asksTruth reports whether the call is of the row of ErrFail.
func asksTruth(call string) bool { return slices.Contains([]string{"Streets", "Bounds", "Off"}, call) }

// bestCall calls Best.
func bestCall(m border.Map, limits border.Range) call {
	return func() (api.Errno, bool) {
		l, n, e := border.Best(m, limits)
		return e, len(l) == 0 && n == 0
	}
}

// testError tests that the call has this error, and with an error nothing else.
func testError(t *testing.T, what string, do call, due api.Errno) {
	t.Helper()
	if e, zero := do(); e != due || e != api.OK && !zero {
		t.Errorf("%s: %v, not %v; zero: %v", what, e, due, zero)
	}
}

// tooMuch are maps with more than fits.
func tooMuch() map[string]border.Map {
	five := changed(greatest(), func(m *border.Map) { m.Old = append(m.Old, 10000) })
	return map[string]border.Map{
		"5 old districts":              five,
		"10000 old districts":          {Old: make([]int, 10000), New: 1},
		"5 old districts, all with":    changed(five, func(m *border.Map) { m.Streets[7].Old = 4 }),
		"5 wrong old districts":        {Old: list(-1, -1, -1, -1, -1), New: -1},
		"9 streets":                    changed(greatest(), func(m *border.Map) { m.Streets = append(m.Streets, m.Streets[0]) }),
		"9 wrong streets":              {Old: list(5), New: 1, Streets: make([]border.Street, 9)},
		"9 streets without districts":  {Streets: make([]border.Street, 9)},
		"21 joins":                     changed(greatest(), func(m *border.Map) { m.Joins = append(m.Joins, m.Joins[0]) }),
		"21 joins of the same streets": changed(town(), func(m *border.Map) { m.Joins = slices.Repeat(joins(join(0, 1)), 21) }),
		"21 wrong joins":               changed(town(), func(m *border.Map) { m.Joins = make([]border.Join, 21) }),
		"21 joins and nothing else":    {Joins: make([]border.Join, 21)},
	}
}

// outside are numbers that are not from 0 to most.
func outside(most int) []int {
	return list(-1, most+1, -2, most+2, math.MinInt, math.MaxInt, math.MinInt+1, math.MaxInt-1, 1<<32)
}

// wrongRanges are none, or have ends that are not from 0 to most.
func wrongRanges(most int) []border.Range {
	l := ranges(to(1, 0), to(6, 5), to(most, 0), to(most, most-1), to(-1, -1), to(most+1, most+1), to(math.MaxInt, math.MinInt), to(math.MinInt, math.MaxInt))
	for _, n := range outside(most) {
		l = append(l, to(n, 5), to(5, n), to(0, n), to(n, most), to(n, n))
	}
	return l
}

// wrongParts are maps of which one number is wrong.
func wrongParts() []border.Map {
	var l []border.Map
	add := func(change func(m *border.Map)) {
		l = append(l, changed(town(), change), changed(townOf(121, 60, 2), change))
	}
	for _, n := range outside(10000) {
		add(func(m *border.Map) { m.Old[0] = n })
		add(func(m *border.Map) { m.Old[1] = n })
	}
	for _, n := range append(outside(4), 0, 1) {
		add(func(m *border.Map) { m.New = n })
	}
	for i := range 4 {
		for _, n := range outside(1) {
			add(func(m *border.Map) { m.Streets[i].Old = n })
			add(func(m *border.Map) { m.Streets[i].New = n })
		}
		for _, n := range outside(1000) {
			add(func(m *border.Map) { m.Streets[i].Weight = n })
		}
		for _, r := range wrongRanges(10000) {
			add(func(m *border.Map) { m.Streets[i].People = r })
		}
	}
	for i := range 3 {
		for _, n := range outside(3) {
			add(func(m *border.Map) { m.Joins[i] = join(n, 0) })
			add(func(m *border.Map) { m.Joins[i] = join(3, n) })
			add(func(m *border.Map) { m.Joins[i] = join(n, n) })
		}
		for n := range 4 {
			add(func(m *border.Map) { m.Joins[i] = join(n, n) })
		}
	}
	return l
}

// wrongMaps are maps that are not valid otherwise.
func wrongMaps() []border.Map {
	weightless := func(l ...int) border.Map {
		return changed(town(), func(m *border.Map) {
			for _, i := range l {
				m.Streets[i].Weight = 0
			}
		})
	}
	return append(wrongParts(),
		border.Map{}, border.Map{Old: list(5), New: 1}, border.Map{Old: list(0), New: 1}, border.Map{New: 1, Streets: streets(street(0, 0, 1, 0, 0))},
		border.Map{Old: list(0), Streets: streets(street(0, 0, 1, 0, 0))}, border.Map{Old: list(0), New: 1, Streets: make([]border.Street, 1)},
		border.Map{Old: list(), New: 1, Streets: streets(street(-1, 0, 1, 0, 0))},
		weightless(0, 1), weightless(2, 3), weightless(0, 1, 2, 3),
		changed(town(), func(m *border.Map) { m.Old = nil }),
		changed(town(), func(m *border.Map) { m.Streets = nil }),
		changed(town(), func(m *border.Map) { m.Streets, m.Joins = nil, nil }),
		changed(town(), func(m *border.Map) { m.Old = append(m.Old, 0) }),
		changed(town(), func(m *border.Map) { m.Old = m.Old[:1] }),
		changed(town(), func(m *border.Map) { m.Streets = m.Streets[:2] }),
		changed(town(), func(m *border.Map) { m.Streets[0].Weight, m.Streets[1].Weight = 5, -5 }),
		// Of wrong weights the sum can be above 0.
		changed(town(), func(m *border.Map) { m.Streets[0].Weight, m.Streets[1].Weight = 6, -5 }),
	)
}

// testNoMap tests that no call takes the map, whatever else it is given.
func testNoMap(t *testing.T, what string, m border.Map, due api.Errno) {
	t.Helper()
	for call, do := range callsOf(m) {
		testError(t, call+" of "+what, do, due)
	}
	for _, limits := range ranges(to(0, 40000), to(30, 130), to(100, 100), to(-1, 5), to(5, 4), to(0, 40001)) {
		testError(t, "Best of "+what, bestCall(m, limits), due)
		for _, l := range [][]int{nil, list(0, 1, 1, 1), list(0, 1, 1, 0), own(m), make([]int, len(m.Streets))} {
			if border.ProveBorders(m, l, limits, 8) || border.ProveTruth(m, l) {
				t.Errorf("ProveBorders or ProveTruth of %s", what)
			}
		}
	}
	for _, l := range [][]int{list(60, 40, 50, 10), list(0), list(5)} {
		if border.ProveTruth(m, l) {
			t.Errorf("ProveTruth of %s", what)
		}
	}
}

// P11.1: the row "all", first ErrLimit.
func TestTooMuch(t *testing.T) {
	for what, m := range tooMuch() {
		testNoMap(t, what, m, api.ErrLimit)
	}
	for _, wrong := range wrongMaps() {
		testNoMap(t, "21 joins of a wrong map", changed(wrong, func(m *border.Map) { m.Joins = make([]border.Join, 21) }), api.ErrLimit)
		testNoMap(t, "9 streets of a wrong map", changed(wrong, func(m *border.Map) { m.Streets = slices.Repeat(town().Streets, 3)[:9] }), api.ErrLimit)
		testNoMap(t, "5 old districts of a wrong map", changed(wrong, func(m *border.Map) { m.Old = make([]int, 5) }), api.ErrLimit)
	}
}

// P11.1: the row "all", then ErrArg.
func TestWrongMaps(t *testing.T) {
	for _, m := range wrongMaps() {
		testNoMap(t, "a wrong map", m, api.ErrArg)
		if t.Failed() {
			t.Fatalf("the map %v", m)
		}
	}
}

// P11.1: maps at the ends of what is valid.
func TestCheckMap(t *testing.T) {
	for _, m := range append(slices.Concat(fixed(), notConsistent()),
		changed(town(), func(m *border.Map) { m.New = 3 }),
		changed(town(), func(m *border.Map) { m.Joins = nil }),
		changed(town(), func(m *border.Map) { m.Joins = slices.Repeat(joins(join(3, 0), join(0, 3)), 10) }),
		changed(town(), func(m *border.Map) { m.Streets[0].Weight, m.Streets[2].Weight = 0, 0 }),
		changed(town(), func(m *border.Map) { m.Streets[1].Weight, m.Streets[3].Weight = 0, 1000 }),
		changed(town(), func(m *border.Map) { m.Streets[0].People, m.Streets[1].People = to(10000, 10000), to(0, 0) }),
		changed(town(), func(m *border.Map) { m.Old[0], m.Old[1] = 0, 10000 }),
		border.Map{Old: list(0), New: 4, Streets: slices.Repeat(streets(street(0, 3, 1, 0, 10000)), 8)},
		border.Map{Old: list(0, 0, 0, 0), New: 1, Streets: streets(street(3, 0, 1, 0, 0), street(1, 0, 1, 0, 0), street(0, 0, 1, 0, 0), street(2, 0, 1, 0, 0))},
	) {
		if e := border.CheckMap(m); e != api.OK {
			t.Errorf("CheckMap of %v: %v", m, e)
		}
		testError(t, "Carry", callsOf(m)["Carry"], api.OK)
		testError(t, "Apart", callsOf(m)["Apart"], api.OK)
	}
}

// The row of ErrRange: it is asked after the map is valid, and before it is consistent.
func TestWrongLimits(t *testing.T) {
	for _, m := range append(slices.Clone(notConsistent()), fixed()...) {
		for _, limits := range wrongRanges(40000) {
			testError(t, "Best within wrong limits", bestCall(m, limits), api.ErrRange)
			for _, l := range [][]int{own(m), nil, make([]int, len(m.Streets))} {
				if border.ProveBorders(m, l, limits, 8) {
					t.Errorf("ProveBorders of %v within %v", m, limits)
				}
			}
		}
	}
	for _, limits := range ranges(to(0, 40000), to(0, 0), to(40000, 40000), to(39999, 40000), to(0, 10001)) {
		if e, _ := bestCall(town(), limits)(); e == api.ErrRange {
			t.Errorf("Best within %v: %v", limits, e)
		}
	}
}

// The row of ErrFail: for the calls that ask for truths, before ErrNone; for no others.
func TestNotConsistent(t *testing.T) {
	for _, m := range notConsistent() {
		for call, do := range callsOf(m) {
			due := api.OK
			if asksTruth(call) {
				due = api.ErrFail
			}
			testError(t, call+" of a map that is not consistent", do, due)
		}
		for _, limits := range ranges(to(0, 40000), to(100, 100), to(0, 0), to(40000, 40000)) {
			testError(t, "Best of a map that is not consistent", bestCall(m, limits), api.ErrFail)
		}
		forBorders(m, func(borders []int) {
			if border.ProveBorders(m, borders, to(0, 40000), 8) {
				t.Errorf("ProveBorders of %v, %v", m, borders)
			}
		})
	}
}

// The row of ErrFail: the sums of the people of each old district are asked, at both ends.
func TestJustConsistent(t *testing.T) {
	for first := 60; first <= 130; first++ {
		for second := 10; second <= 100; second++ {
			m := townOf(first, second, 2)
			due := api.ErrFail
			if inRange(to(70, 120), first) && inRange(to(20, 90), second) {
				due = api.OK
			}
			for call, do := range callsOf(m) {
				if asksTruth(call) {
					testError(t, call, do, due)
				}
			}
			if due == api.OK {
				testError(t, "Best", bestCall(m, to(0, 40000)), api.OK)
			} else {
				testError(t, "Best", bestCall(m, to(0, 40000)), api.ErrFail)
			}
		}
	}
}

// The row of ErrNone: limits, joins or the number of districts leave no borders.
func TestNoBorders(t *testing.T) {
	for _, x := range []struct {
		m      border.Map
		limits border.Range
	}{
		{town(), to(100, 100)}, {town(), to(0, 99)}, {town(), to(61, 40000)}, {town(), to(40000, 40000)}, {town(), to(0, 0)},
		{changed(town(), func(m *border.Map) { m.Joins = nil }), to(0, 40000)},
		{changed(town(), func(m *border.Map) { m.Joins = joins(join(0, 1)) }), to(0, 40000)},
		{townOf(100, 60, 4), to(1, 40000)}, {row(0, 2), to(0, 40000)}, {row(0), to(11, 40000)}, {row(0), to(0, 9)}, {row(3, 3, 3), to(0, 40000)},
		{row(0, 0, 1, 1, 2), to(15, 20)}, {ring(0, 0, 1, 1, 2), to(20, 20)}, {greatest(), to(10000, 10000)},
	} {
		testError(t, "Best without borders", bestCall(x.m, x.limits), api.ErrNone)
		forBorders(x.m, func(borders []int) {
			if border.ProveBorders(x.m, borders, x.limits, 8) {
				t.Errorf("ProveBorders of %v, %v within %v", x.m, borders, x.limits)
			}
		})
	}
}

// P11.2, R11: what is no list of numbers of the streets is no truth, even if its sums are right.
func TestWrongTruths(t *testing.T) {
	wide := changed(town(), func(m *border.Map) {
		for i := range m.Streets {
			m.Streets[i].People = to(0, 10000)
		}
	})
	for _, m := range []border.Map{town(), wide} {
		good := list(60, 40, 50, 10)
		if !border.ProveTruth(m, good) {
			t.Errorf("ProveTruth of %v", good)
		}
		for _, l := range [][]int{
			nil, good[:3], append(slices.Clone(good), 0), slices.Concat(good, good), make([]int, 4), make([]int, 8), make([]int, 9), make([]int, 10000), list(160),
			list(101, -1, 50, 10), list(60, 40, -1, 61), list(math.MinInt, math.MinInt, 50, 10), list(math.MinInt, 100+math.MinInt, 50, 10),
			list(math.MaxInt, math.MinInt+101, 50, 10), list(1<<62, 100-1<<62, 50, 10), list(60, 40, 60+1<<32, -1<<32),
		} {
			if border.ProveTruth(m, l) {
				t.Errorf("ProveTruth of %v", l)
			}
		}
	}
}

// P11.5, R11: what is no list of districts of the streets is not proved.
func TestWrongBorders(t *testing.T) {
	good := list(0, 1, 1, 1)
	if !border.ProveBorders(town(), good, to(0, 40000), 1) {
		t.Errorf("ProveBorders of %v", good)
	}
	for _, m := range []border.Map{town(), townOf(100, 60, 1)} {
		for _, l := range [][]int{
			nil, list(), list(0), list(0, 0, 0), list(0, 1, 1), list(0, 0, 0, 0, 0), list(0, 1, 1, 1, 1), make([]int, 8), make([]int, 9), make([]int, 10000),
			list(0, 1, 1, 2), list(2, 1, 1, 1), list(0, 1, 1, -1), list(-1, 0, 0, 0), list(0, 0, 0, 4), list(0, 0, 0, math.MinInt), list(math.MaxInt, 0, 0, 0), list(0, 1<<32, 0, 0),
		} {
			for _, most := range list(4, 8, math.MaxInt) {
				if border.ProveBorders(m, l, to(0, 40000), most) {
					t.Errorf("ProveBorders of %v", l)
				}
			}
		}
	}
	for _, most := range list(0, -1, math.MinInt) {
		if border.ProveBorders(town(), good, to(0, 40000), most) {
			t.Errorf("ProveBorders of %v with at most %d moved", good, most)
		}
	}
}
