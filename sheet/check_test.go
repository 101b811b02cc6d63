package sheet_test

import (
	"math"
	"slices"
	"testing"

	"tithing/api"
	"tithing/sheet"
)

// changed returns the census of the examples after a change.
func changed(change func(c *sheet.Census)) sheet.Census {
	c := four(3, 5)
	change(&c)
	return c
}

// wrongCensus is not valid, with its error.
type wrongCensus struct {
	c sheet.Census
	e api.Errno
}

func wrongCensuses() map[string]wrongCensus {
	wrong := func(change func(c *sheet.Census)) wrongCensus { return wrongCensus{changed(change), api.ErrArg} }
	long := func(change func(c *sheet.Census)) wrongCensus { return wrongCensus{changed(change), api.ErrLimit} }
	set := func(n int, one sheet.Entry) wrongCensus {
		return wrong(func(c *sheet.Census) { c.Entries[n] = one })
	}
	same := func(l ...sheet.Pair) wrongCensus { return wrong(func(c *sheet.Census) { c.Same = l }) }
	apart := func(l ...sheet.Pair) wrongCensus { return wrong(func(c *sheet.Census) { c.Apart = l }) }
	seven := slices.Repeat(pairs(pair(0, 1)), 7)
	return map[string]wrongCensus{
		"11 entries":               long(func(c *sheet.Census) { c.Entries = make([]sheet.Entry, 11) }),
		"11 entries, none right":   long(func(c *sheet.Census) { c.Entries = slices.Repeat([]sheet.Entry{entry(-1, 2, 3, 4, 3)}, 11) }),
		"7 pairs in Same":          long(func(c *sheet.Census) { c.Same = seven }),
		"7 pairs in Apart":         long(func(c *sheet.Census) { c.Apart = seven }),
		"7 pairs, none right":      long(func(c *sheet.Census) { c.Same = make([]sheet.Pair, 7) }),
		"7 pairs of no entries":    {sheet.Census{Apart: make([]sheet.Pair, 7)}, api.ErrLimit},
		"7 pairs, a wrong number":  long(func(c *sheet.Census) { c.Apart, c.Number = seven, to(3, 2) }),
		"7 pairs, a wrong entry":   long(func(c *sheet.Census) { c.Apart, c.Entries[0].Sex = seven, 2 }),
		"schedule -1":              set(0, entry(-1, 0, 5, 30, 34)),
		"schedule 10":              set(3, entry(10, 0, 5, 30, 34)),
		"the greatest schedule":    set(1, entry(math.MaxInt, 0, 5, 30, 34)),
		"sex -1":                   set(0, entry(0, -1, 5, 30, 34)),
		"sex 2":                    set(2, entry(0, 2, 5, 30, 34)),
		"key -1":                   set(0, entry(0, 0, -1, 30, 34)),
		"key 100":                  set(3, entry(0, 0, 100, 30, 34)),
		"the smallest key":         set(3, entry(0, 0, math.MinInt, 30, 34)),
		"age -1":                   set(0, entry(0, 0, 5, -1, 34)),
		"age 121":                  set(3, entry(0, 0, 5, 120, 121)),
		"ages fall":                set(1, entry(0, 0, 5, 34, 33)),
		"all ages":                 set(1, entry(0, 0, 5, math.MinInt, math.MaxInt)),
		"only the smallest age":    set(1, entry(0, 0, 5, math.MinInt, math.MinInt)),
		"the same entry":           same(pair(1, 1)),
		"the same entry, later":    same(pair(0, 1), pair(2, 2)),
		"same as -1":               same(pair(0, -1)),
		"-1 is the same":           same(pair(-1, 0)),
		"same as 4":                same(pair(0, 4)),
		"4 is the same":            same(pair(0, 1), pair(4, 0)),
		"apart from itself":        apart(pair(3, 3)),
		"apart from -1":            apart(pair(0, -1)),
		"-1 is apart":              apart(pair(-1, 0)),
		"apart from 4":             apart(pair(0, 1), pair(0, 4)),
		"4 is apart":               apart(pair(4, 0)),
		"apart from the greatest":  apart(pair(0, math.MaxInt)),
		"a pair of no entries":     {sheet.Census{Same: pairs(pair(0, 1))}, api.ErrArg},
		"-1 omitted":               wrong(func(c *sheet.Census) { c.Omitted = to(-1, 1) }),
		"101 omitted":              wrong(func(c *sheet.Census) { c.Omitted = to(0, 101) }),
		"omitted fall":             wrong(func(c *sheet.Census) { c.Omitted = to(2, 1) }),
		"the number is -1":         wrong(func(c *sheet.Census) { c.Number = to(-1, 4) }),
		"the number is 201":        wrong(func(c *sheet.Census) { c.Number = to(4, 201) }),
		"the number falls":         wrong(func(c *sheet.Census) { c.Number = to(4, 3) }),
		"the number is any":        wrong(func(c *sheet.Census) { c.Number = to(math.MinInt, math.MaxInt) }),
		"no entry, and -1 omitted": {sheet.Census{Omitted: to(-1, -1)}, api.ErrArg},
	}
}

// P2.1: the error of the census, or OK.
func TestCheckCensus(t *testing.T) {
	for name, x := range wrongCensuses() {
		if e := sheet.CheckCensus(x.c); e != x.e {
			t.Errorf("%s: %v, not %v", name, e, x.e)
		}
	}
	six := slices.Repeat(pairs(pair(0, 1), pair(1, 0)), 3)
	for name, c := range map[string]sheet.Census{
		"the example":          four(3, 5),
		"not consistent":       four(6, 9),
		"nothing":              {},
		"empty lists":          {Entries: []sheet.Entry{}, Same: []sheet.Pair{}, Apart: []sheet.Pair{}},
		"10 entries":           alike(10),
		"10 zero entries":      {Entries: make([]sheet.Entry, 10)},
		"6 pairs of each":      changed(func(c *sheet.Census) { c.Same, c.Apart = six, six }),
		"all ends":             changed(func(c *sheet.Census) { c.Omitted, c.Number = to(0, 100), to(0, 200) }),
		"the greatest numbers": changed(func(c *sheet.Census) { c.Omitted, c.Number = to(100, 100), to(200, 200) }),
		"the greatest entry":   changed(func(c *sheet.Census) { c.Entries[3] = entry(9, 1, 99, 120, 120) }),
		"the last entry":       changed(func(c *sheet.Census) { c.Same, c.Apart = pairs(pair(3, 0)), pairs(pair(0, 3)) }),
	} {
		if e := sheet.CheckCensus(c); e != api.OK {
			t.Errorf("%s: %v", name, e)
		}
	}
}

// censusCalls are all calls with a census and an error: each returns it, and whether its other results are zero.
func censusCalls(c sheet.Census) map[string]func() (api.Errno, bool) {
	return map[string]func() (api.Errno, bool){
		"Persons": func() (api.Errno, bool) {
			p, o, e := sheet.Persons(c)
			return e, p == to(0, 0) && o == to(0, 0)
		},
		"Together": func() (api.Errno, bool) {
			can, must, e := sheet.Together(c, 0, 0)
			return e, !can && !must
		},
		"Doubled":    func() (api.Errno, bool) { l, e := sheet.Doubled(c); return e, len(l) == 0 },
		"Show most":  func() (api.Errno, bool) { l, e := sheet.Show(c, true); return e, len(l) == 0 },
		"Show least": func() (api.Errno, bool) { l, e := sheet.Show(c, false); return e, len(l) == 0 },
		"Drop":       func() (api.Errno, bool) { l, e := sheet.Drop(c); return e, len(l) == 0 },
	}
}

func TestWrongCensus(t *testing.T) {
	for name, x := range wrongCensuses() {
		for call, f := range censusCalls(x.c) {
			if e, zero := f(); e != x.e || !zero {
				t.Errorf("%s of a census with %s: %v, not %v; zero: %v", call, name, e, x.e, zero)
			}
		}
		// The error of the census comes before that of the entries.
		if can, must, e := sheet.Together(x.c, -1, 99); can || must || e != x.e {
			t.Errorf("Together of no entries of a census with %s: %v, %v, %v", name, can, must, e)
		}
		for _, persons := range [][][]int{nil, lists(list(0), list(1), list(2), list(3)), lists(list(0, 1), list(2), list(3))} {
			if sheet.ProveAssignment(x.c, persons) {
				t.Errorf("ProveAssignment of a census with %s: %v", name, persons)
			}
		}
	}
}

// TestWrongEntries: that there is no such entry comes before that the census is not consistent.
func TestWrongEntries(t *testing.T) {
	for _, x := range [][2]int{{0, 4}, {4, 0}, {-1, 0}, {0, -1}, {4, 4}, {-1, -1}, {math.MaxInt, 0}, {0, math.MinInt}} {
		for _, c := range []sheet.Census{four(3, 5), four(6, 9)} {
			if can, must, e := sheet.Together(c, x[0], x[1]); can || must || e != api.ErrRange {
				t.Errorf("Together of %v: %v, %v, %v", x, can, must, e)
			}
		}
	}
	if _, _, e := sheet.Together(sheet.Census{}, 0, 0); e != api.ErrRange {
		t.Errorf("Together of no entries: %v", e)
	}
}

// TestNotConsistent: censuses without a valid assignment, some even without any pairs.
func TestNotConsistent(t *testing.T) {
	for name, x := range map[string]struct {
		c    sheet.Census
		drop []int
		e    api.Errno
	}{
		"too many":             {four(6, 9), nil, api.ErrFail},
		"too few":              {four(0, 2), nil, api.ErrFail},
		"too few omitted":      {sheet.Census{Entries: alike(1).Entries, Omitted: to(0, 3), Number: to(5, 5)}, nil, api.ErrFail},
		"too many omitted":     {sheet.Census{Entries: alike(1).Entries, Omitted: to(5, 6), Number: to(0, 5)}, nil, api.ErrFail},
		"other persons":        {withSame(four(3, 5), pair(0, 2)), list(0), api.OK},
		"another sex":          {withSame(four(3, 5), pair(3, 2)), list(0), api.OK},
		"by two pairs":         {withSame(withSame(four(3, 5), pair(0, 1)), pair(2, 1)), list(0), api.OK},
		"the same and apart":   {withSame(withApart(four(3, 5), pair(1, 0)), pair(0, 1)), list(0), api.OK},
		"all apart":            {withApart(withApart(four(3, 3), pair(1, 0)), pair(1, 2)), list(0), api.OK},
		"too many and a pair":  {withSame(four(6, 9), pair(0, 2)), nil, api.ErrFail},
		"one schedule, a pair": {withSame(twins(to(0, 200)), pair(8, 9)), list(0), api.OK},
	} {
		for call, f := range censusCalls(x.c) {
			if e, zero := f(); call != "Drop" && (e != api.ErrFail || !zero) {
				t.Errorf("%s of a census with %s: %v; zero: %v", call, name, e, zero)
			}
		}
		if l, e := sheet.Drop(x.c); !slices.Equal(l, x.drop) || e != x.e {
			t.Errorf("Drop of a census with %s: %v, %v", name, l, e)
		}
		if e := sheet.CheckCensus(x.c); e != api.OK {
			t.Errorf("CheckCensus of a census with %s: %v", name, e)
		}
	}
}

// wrongCoding is not valid, with its error.
type wrongCoding struct {
	c sheet.Coding
	e api.Errno
}

func wrongCodings() map[string]wrongCoding {
	wrong := func(wrong []int, codes ...[]int) wrongCoding { return wrongCoding{coding(wrong, codes...), api.ErrArg} }
	long := func(wrong []int, codes ...[]int) wrongCoding {
		return wrongCoding{coding(wrong, codes...), api.ErrLimit}
	}
	return map[string]wrongCoding{
		"4 coders":                 long(list(0, 0, 0, 0), list(1), list(1), list(1), list(1)),
		"4 coders, none right":     long(nil, nil, nil, nil, nil),
		"4 coders, a wrong code":   long(list(0, 0, 0, 0), list(1), list(1), list(1), list(10)),
		"11 codes":                 long(list(0), make([]int, 11)),
		"11 codes, none right":     long(list(-1, 7), slices.Repeat(list(10), 11)),
		"11 codes of the last":     long(list(0, 0, 0), nil, list(10), make([]int, 11)),
		"no coder":                 wrong(nil),
		"no coder, a wrong number": wrong(list(0)),
		"no entry":                 wrong(list(0), nil),
		"no entry, empty lists":    wrong(list(0, 0), []int{}, []int{}),
		"lists of two lengths":     wrong(list(1, 1), list(7), list(7, 8)),
		"the second is empty":      wrong(list(1, 1), list(7), nil),
		"the last is shorter":      wrong(list(1, 1, 1), list(7, 8), list(7, 8), list(7)),
		"code -1":                  wrong(list(1), list(-1)),
		"code 10":                  wrong(list(1), list(10)),
		"code 10 at the end":       wrong(list(0, 0), list(1, 2), list(1, 10)),
		"the smallest code":        wrong(list(0, 0), list(1, math.MinInt), list(1, 2)),
		"-1 wrong":                 wrong(list(-1), list(1)),
		"11 wrong":                 wrong(list(11), list(1)),
		"-1 wrong at the end":      wrong(list(0, 0, -1), list(1), list(1), list(1)),
		"the greatest wrong":       wrong(list(0, math.MaxInt), list(1), list(1)),
		"no wrong":                 wrong(nil, list(1)),
		"a wrong too few":          wrong(list(1, 1), list(1), list(1), list(1)),
		"a wrong too many":         wrong(list(1, 1), list(1)),
		"4 wrong of 3 coders":      wrong(list(1, 1, 1, 1), list(1), list(1), list(1)),
	}
}

// P2.6: the error of the coding, or OK.
func TestCheckCoding(t *testing.T) {
	for name, x := range wrongCodings() {
		if e := sheet.CheckCoding(x.c); e != x.e {
			t.Errorf("%s: %v, not %v", name, e, x.e)
		}
	}
	for name, c := range map[string]sheet.Coding{
		"the example":           three(1, 1, 1),
		"not consistent":        three(0, 0, 3),
		"one code":              coding(list(0), list(0)),
		"the greatest code":     coding(list(10), list(9)),
		"10 codes, 3 coders":    coding(list(10, 0, 10), make([]int, 10), make([]int, 10), make([]int, 10)),
		"more wrong than there": coding(list(10, 2), list(1), list(2)),
	} {
		if e := sheet.CheckCoding(c); e != api.OK {
			t.Errorf("%s: %v", name, e)
		}
	}
}

func TestWrongCoding(t *testing.T) {
	for name, x := range wrongCodings() {
		if l, e := sheet.Codes(x.c); len(l) != 0 || e != x.e {
			t.Errorf("Codes of a coding with %s: %v, %v", name, l, e)
		}
		if n, e := sheet.Errors(x.c); n != 0 || e != x.e {
			t.Errorf("Errors of a coding with %s: %d, %v", name, n, e)
		}
		for _, codes := range append(copyLists(x.c.Codes), nil, list(1), list(7), list(7, 8)) {
			if sheet.ProveSolution(x.c, codes) {
				t.Errorf("ProveSolution of a coding with %s: %v", name, codes)
			}
		}
	}
}

func TestNoSolution(t *testing.T) {
	for name, c := range map[string]sheet.Coding{
		"two that are right":   three(0, 0, 3),
		"one right, one wrong": coding(list(1, 0), list(7, 8), list(9, 6)),
		"too many right":       coding(list(7, 7, 5), make([]int, 10), slices.Repeat(list(1), 10), slices.Repeat(list(2), 10)),
	} {
		if l, e := sheet.Codes(c); len(l) != 0 || e != api.ErrFail {
			t.Errorf("Codes of %s: %v, %v", name, l, e)
		}
		if n, e := sheet.Errors(c); n != 0 || e != api.ErrFail {
			t.Errorf("Errors of %s: %d, %v", name, n, e)
		}
		if e := sheet.CheckCoding(c); e != api.OK {
			t.Errorf("CheckCoding of %s: %v", name, e)
		}
	}
}
