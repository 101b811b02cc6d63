package sheet_test

import (
	"math"
	"slices"
	"testing"

	"tithing/api"
	"tithing/sheet"
)

// P2.1: what is a valid assignment, and what is not.
func TestProveAssignment(t *testing.T) {
	same, apart := withSame(four(3, 5), pair(2, 1)), withApart(four(3, 5), pair(2, 1))
	alone := lists(list(0), list(1), list(2), list(3))
	for _, x := range []struct {
		name    string
		c       sheet.Census
		persons [][]int
		want    bool
	}{
		{"1 and 2", four(3, 3), lists(list(1, 2), list(0), list(3)), true},
		{"0 and 1, in another order", four(3, 3), lists(list(3), list(2), list(0, 1)), true},
		{"each alone, omitted at least -1", four(3, 3), alone, false},
		{"each alone, none omitted", four(4, 4), alone, true},
		{"1 omitted", four(4, 4), lists(list(0, 1), list(2), list(3)), true},
		{"2 omitted", four(5, 5), lists(list(0, 1), list(2), list(3)), false},
		{"within Number", four(3, 5), alone, true},
		{"more omitted than in Number", sheet.Census{Omitted: to(2, 3), Number: to(0, 1)}, nil, false},
		{"not 0 and 2", four(3, 5), lists(list(0, 2), list(1), list(3)), false},
		{"not 2 and 3", four(3, 5), lists(list(2, 3), list(1), list(0)), false},
		{"not all three", four(3, 5), lists(list(0, 1, 2), list(3)), false},
		{"falls", four(3, 5), lists(list(2, 1), list(0), list(3)), false},
		{"twice in a list", four(3, 5), lists(list(1, 1), list(0), list(2), list(3)), false},
		{"twice in two lists", four(3, 5), lists(list(0, 1), list(1, 2), list(3)), false},
		{"a list twice", four(3, 5), lists(list(0), list(1), list(2), list(3), list(3)), false},
		{"one missing", four(3, 5), lists(list(0), list(1), list(2)), false},
		{"the first missing", four(3, 5), lists(list(1), list(2), list(3)), false},
		{"an empty person", four(3, 5), lists(list(1, 2), list(0), list(3), nil), false},
		{"only empty persons", four(3, 5), make([][]int, 4), false},
		{"no person", four(3, 5), nil, false},
		{"entry 4", four(3, 5), lists(list(0), list(1), list(2), list(3, 4)), false},
		{"entry 4 alone", four(3, 5), lists(list(0), list(1), list(2), list(3), list(4)), false},
		{"entry -1", four(3, 5), lists(list(-1, 0), list(1), list(2), list(3)), false},
		{"the greatest entry", four(3, 5), lists(list(0), list(1), list(2), list(3, math.MaxInt)), false},
		{"entry 64", four(3, 5), lists(list(0), list(1), list(2), list(3), list(64)), false},
		{"a pair of Same", same, lists(list(1, 2), list(0), list(3)), true},
		{"another pair than Same", same, lists(list(0, 1), list(2), list(3)), false},
		{"Same, each alone", same, alone, false},
		{"a pair of Apart", apart, lists(list(1, 2), list(0), list(3)), false},
		{"another pair than Apart", apart, lists(list(0, 1), list(2), list(3)), true},
		{"Apart, each alone", apart, alone, true},
		{"no entries", sheet.Census{}, nil, true},
		{"no entries, an empty list", sheet.Census{}, [][]int{}, true},
		{"no entries, an empty person", sheet.Census{}, make([][]int, 1), false},
		{"no entries, a person", sheet.Census{}, lists(list(0)), false},
		{"all ten", alike(10), lists(list(0, 1, 2, 3, 4, 5, 6, 7, 8, 9)), true},
		{"ten but one", alike(10), lists(list(0, 1, 2, 3, 4, 5, 6, 7, 8)), false},
		{"twins", twins(to(2, 2)), lists(list(0, 2, 5, 7, 8), list(1, 3, 4, 6, 9)), true},
		{"twins of one schedule", twins(to(2, 2)), lists(list(0, 1, 5, 7, 8), list(2, 3, 4, 6, 9)), false},
	} {
		if ok := sheet.ProveAssignment(x.c, x.persons); ok != x.want {
			t.Errorf("%s: %v", x.name, ok)
		}
	}
}

// P2.1: TestAnyAssignment compares with the definition, for all divisions of the entries of many censuses.
func TestAnyAssignment(t *testing.T) {
	proved := 0
	forCensuses(t, 5, func(t *testing.T, d *dice, c sheet.Census) {
		divisions(len(c.Entries), func(of []int, persons int) {
			l := listsOf(of, persons)
			slices.Reverse(l)
			valid := isValid(c, of, persons)
			if ok := sheet.ProveAssignment(c, l); ok != valid {
				t.Errorf("ProveAssignment of %v, %v: %v", c, l, ok)
			}
			if valid {
				proved++
			}
		})
	})
	if proved < 400 {
		t.Errorf("only %d assignments are valid", proved)
	}
}

// touching has three entries, of which the ages of the first and the last one only touch those of the second.
func touching() sheet.Census {
	return sheet.Census{Entries: []sheet.Entry{entry(0, 1, 0, 0, 10), entry(1, 1, 0, 10, 20), entry(2, 1, 0, 20, 120)}, Number: to(0, 200)}
}

// P2.2, P2.3, P2.4: how many persons there can be, which entries must be doubled, and assignments of both ends.
func TestPersonsAndDoubledAndShow(t *testing.T) {
	many := func(c sheet.Census, omitted sheet.Range) sheet.Census { c.Omitted = omitted; return c }
	for _, x := range []struct {
		name             string
		c                sheet.Census
		persons, omitted sheet.Range
		doubled          []int
	}{
		{"the example with 3", four(3, 3), to(3, 3), to(0, 0), list(1)},
		{"the example with 3 to 5", four(3, 5), to(3, 4), to(0, 1), nil},
		{"4", four(4, 4), to(3, 4), to(0, 1), nil},
		{"5", four(5, 5), to(4, 4), to(1, 1), nil},
		{"5 and more", four(5, 200), to(4, 4), to(1, 1), nil},
		{"up to 3", four(0, 3), to(3, 3), to(0, 0), list(1)},
		{"the same", withSame(four(3, 5), pair(0, 1)), to(3, 3), to(0, 1), list(0, 1)},
		{"apart", withApart(four(3, 5), pair(0, 1)), to(3, 4), to(0, 1), nil},
		{"apart, 3", withApart(four(3, 3), pair(0, 1)), to(3, 3), to(0, 0), list(1, 2)},
		{"all apart", withApart(withApart(four(4, 5), pair(0, 1)), pair(2, 1)), to(4, 4), to(0, 1), nil},
		{"no entries", sheet.Census{Omitted: to(2, 9), Number: to(4, 6)}, to(0, 0), to(4, 6), nil},
		{"nothing", sheet.Census{}, to(0, 0), to(0, 0), nil},
		{"one entry", alike(1), to(1, 1), to(0, 0), nil},
		{"ages that touch", touching(), to(2, 3), to(0, 0), nil},
		{"ten alike", alike(10), to(1, 10), to(0, 0), nil},
		{"ten alike, some omitted", many(alike(10), to(90, 100)), to(1, 10), to(90, 100), nil},
		{"ten alike, 100 omitted of 103 to 104", many(sheet.Census{Entries: alike(10).Entries, Number: to(103, 104)}, to(100, 100)), to(3, 4), to(100, 100), nil},
		{"ten alike, one person", sheet.Census{Entries: alike(10).Entries, Number: to(1, 1)}, to(1, 1), to(0, 0), list(0, 1, 2, 3, 4, 5, 6, 7, 8, 9)},
		{"ten alike, two persons", sheet.Census{Entries: alike(10).Entries, Number: to(2, 2)}, to(2, 2), to(0, 0), nil},
		{"twins", twins(to(0, 200)), to(2, 10), to(0, 0), nil},
		{"twins, two persons", twins(to(0, 2)), to(2, 2), to(0, 0), list(0, 1, 2, 3, 4, 5, 6, 7, 8, 9)},
		{"twins, nine persons", twins(to(9, 9)), to(9, 9), to(0, 0), nil},
		{"ten of one schedule", sheet.Census{Entries: slices.Repeat(alike(1).Entries, 10), Omitted: to(0, 7), Number: to(12, 15)}, to(10, 10), to(2, 5), nil},
	} {
		p, o, e := sheet.Persons(x.c)
		if p != x.persons || o != x.omitted || e != api.OK {
			t.Errorf("Persons, %s: %v, %v, %v", x.name, p, o, e)
		}
		if l, e := sheet.Doubled(x.c); !slices.Equal(l, x.doubled) || e != api.OK {
			t.Errorf("Doubled, %s: %v, %v", x.name, l, e)
		}
		checkShow(t, x.c, p)
	}
}

// checkShow reports a fault if Show does not return valid assignments of both ends of the range.
func checkShow(t *testing.T, c sheet.Census, persons sheet.Range) {
	t.Helper()
	for most, want := range map[bool]int{false: persons.Lo, true: persons.Hi} {
		l, e := sheet.Show(c, most)
		if e != api.OK || len(l) != want || !sheet.ProveAssignment(c, l) {
			t.Errorf("Show of %v, %v: %v, %v, not %d persons", c, most, l, e, want)
			return
		}
		of := make([]int, len(c.Entries))
		for person, entries := range l {
			for _, n := range entries {
				of[n] = person
			}
		}
		if !isValid(c, of, len(l)) {
			t.Errorf("Show of %v, %v: %v is not valid", c, most, l)
		}
	}
}

// P2.2, P2.3, P2.4: TestAllAssignments compares with all assignments of many censuses.
func TestAllAssignments(t *testing.T) {
	consistent, doubledSome := 0, 0
	forCensuses(t, 6, func(t *testing.T, d *dice, c sheet.Census) {
		k, want := know(c), api.OK
		if len(k.assignments) == 0 {
			want = api.ErrFail
		}
		p, o, e := sheet.Persons(c)
		if p != k.persons || o != k.omitted || e != want {
			t.Errorf("Persons of %v: %v, %v, %v, not %v, %v, %v", c, p, o, e, k.persons, k.omitted, want)
		}
		var doubled []int
		for n := range c.Entries {
			if want == api.OK && !k.alone[n] {
				doubled = append(doubled, n)
			}
		}
		if l, e := sheet.Doubled(c); !slices.Equal(l, doubled) || e != want {
			t.Errorf("Doubled of %v: %v, %v, not %v, %v", c, l, e, doubled, want)
		}
		for a := range c.Entries {
			for b := range c.Entries {
				can, must, e := sheet.Together(c, a, b)
				if p := pair(a, b); can != k.together[p] || must != (want == api.OK && !k.apart[p]) || e != want {
					t.Errorf("Together of %v, %d, %d: %v, %v, %v", c, a, b, can, must, e)
				}
			}
		}
		if want == api.OK {
			checkShow(t, c, p)
			consistent++
		} else if l, e := sheet.Show(c, d.upTo(1) == 0); len(l) != 0 || e != want {
			t.Errorf("Show of %v: %v, %v", c, l, e)
		}
		if len(doubled) > 0 {
			doubledSome++
		}
	})
	if consistent < 100 || doubledSome < 30 {
		t.Errorf("only %d censuses are consistent, and %d have doubled entries", consistent, doubledSome)
	}
}

// P2.3: which entries can be, and must be, the same person.
func TestTogether(t *testing.T) {
	chain := alike(4)
	chain.Same = pairs(pair(2, 0), pair(3, 2))
	for _, x := range []struct {
		name          string
		c             sheet.Census
		first, second int
		can, must     bool
	}{
		{"the example", four(3, 3), 0, 1, true, false},
		{"the example in the other order", four(3, 3), 1, 0, true, false},
		{"other ages", four(3, 5), 0, 2, false, false},
		{"another sex", four(3, 5), 1, 3, false, false},
		{"an entry and itself", four(3, 5), 3, 3, true, true},
		{"the first entry and itself", four(3, 3), 0, 0, true, true},
		{"a doubled entry and itself", four(3, 3), 1, 1, true, true},
		{"5 are too many", four(5, 5), 0, 1, false, false},
		{"the same", withSame(four(3, 5), pair(1, 0)), 0, 1, true, true},
		{"the same as another", withSame(four(3, 5), pair(1, 0)), 1, 2, false, false},
		{"apart", withApart(four(3, 5), pair(1, 0)), 0, 1, false, false},
		{"apart from the other", withApart(four(3, 3), pair(1, 0)), 2, 1, true, true},
		{"ages that touch", touching(), 1, 2, true, false},
		{"ages that do not touch", touching(), 2, 0, false, false},
		{"of a chain", chain, 3, 0, true, true},
		{"not of the chain", chain, 3, 1, true, false},
		{"six pairs of each", sheet.Census{Entries: alike(10).Entries, Same: slices.Repeat(pairs(pair(0, 1)), 6), Apart: slices.Repeat(pairs(pair(0, 2)), 6), Number: to(0, 200)}, 1, 2, false, false},
		{"one schedule", twins(to(0, 200)), 4, 5, false, false},
		{"another schedule", twins(to(2, 2)), 4, 6, true, false},
	} {
		if can, must, e := sheet.Together(x.c, x.first, x.second); can != x.can || must != x.must || e != api.OK {
			t.Errorf("%s: %v, %v, %v", x.name, can, must, e)
		}
	}
}

// P2.5: the minimum set of pairs.
func TestDrop(t *testing.T) {
	with := func(c sheet.Census, same, apart []sheet.Pair) sheet.Census {
		c.Same, c.Apart = same, apart
		return c
	}
	one := sheet.Census{Entries: alike(10).Entries, Number: to(1, 1)}
	other := sheet.Census{Entries: append(alike(9).Entries, entry(9, 0, 0, 0, 0)), Number: to(2, 2)}
	row := pairs(pair(0, 1), pair(1, 2), pair(2, 3), pair(3, 4), pair(4, 5), pair(5, 6))
	for _, x := range []struct {
		name string
		c    sheet.Census
		want []int
	}{
		{"no pairs", four(3, 5), nil},
		{"nothing", sheet.Census{}, nil},
		{"consistent", with(four(3, 3), pairs(pair(0, 1)), pairs(pair(2, 1))), nil},
		{"the example", with(four(3, 5), pairs(pair(0, 1), pair(1, 2)), nil), list(0)},
		{"the second is wrong", with(four(3, 5), pairs(pair(1, 2), pair(0, 2)), nil), list(1)},
		{"both are wrong", with(four(3, 5), pairs(pair(0, 2), pair(1, 3)), nil), list(0, 1)},
		{"Same is first", with(four(3, 5), pairs(pair(0, 1)), pairs(pair(1, 0))), list(0)},
		{"only Apart", with(four(3, 3), nil, pairs(pair(0, 1), pair(1, 2))), list(0)},
		{"Apart after Same", with(four(3, 3), pairs(pair(0, 1), pair(1, 0)), pairs(pair(0, 1))), list(2)},
		{"Apart twice", with(four(3, 5), pairs(pair(0, 1)), pairs(pair(1, 0), pair(0, 1))), list(0)},
		{"Same and Apart", with(four(3, 3), pairs(pair(1, 3)), pairs(pair(0, 1), pair(1, 2))), list(0, 1)},
		{"one of each", with(alike(3), pairs(pair(0, 1), pair(1, 2)), pairs(pair(0, 2))), list(0)},
		{"all of Apart", with(one, pairs(pair(9, 8)), row), list(1, 2, 3, 4, 5, 6)},
		{"fewest before first", with(alike(4), pairs(pair(0, 1), pair(0, 2), pair(0, 3)), pairs(pair(0, 1), pair(0, 2), pair(0, 3), pair(1, 2))), list(0, 1, 2)},
		{"all six of Same", with(twins(to(0, 200)), pairs(pair(0, 1), pair(2, 3), pair(4, 5), pair(6, 7), pair(8, 9), pair(1, 0)), nil), list(0, 1, 2, 3, 4, 5)},
		{"nine of twelve", with(twins(to(2, 2)), pairs(pair(0, 1), pair(2, 3), pair(4, 5), pair(6, 7), pair(8, 9), pair(1, 0)), pairs(pair(0, 2), pair(0, 3), pair(0, 2), pair(0, 3), pair(0, 2), pair(0, 3))), list(0, 1, 2, 3, 4, 5, 6, 8, 10)},
		{"all twelve", with(other, pairs(pair(9, 0), pair(9, 1), pair(9, 2), pair(3, 9), pair(4, 9), pair(5, 9)), row), list(0, 1, 2, 3, 4, 5, 6, 7, 8, 9, 10, 11)},
	} {
		if l, e := sheet.Drop(x.c); !slices.Equal(l, x.want) || e != api.OK {
			t.Errorf("%s: %v, %v, not %v", x.name, l, e, x.want)
		}
	}
}

// P2.5: TestDropOfAll compares with all sets of pairs of many censuses.
func TestDropOfAll(t *testing.T) {
	several := 0
	forCensuses(t, 5, func(t *testing.T, d *dice, c sheet.Census) {
		if n := len(c.Entries); n > 1 {
			c.Same = append(c.Same, d.throwPair(n))
		}
		want, ok := leastDropped(c)
		e := api.OK
		if !ok {
			e = api.ErrFail
		}
		if l, f := sheet.Drop(c); !slices.Equal(l, want) || f != e {
			t.Errorf("Drop of %v: %v, %v, not %v, %v", c, l, f, want, e)
		}
		if len(want) > 1 {
			several++
		}
	})
	if several < 20 {
		t.Errorf("only %d censuses have several pairs to drop", several)
	}
}

// P2.6: what is a solution, and what is not.
func TestProveSolution(t *testing.T) {
	for _, x := range []struct {
		name  string
		c     sheet.Coding
		codes []int
		want  bool
	}{
		{"the example", three(1, 1, 1), list(1, 5, 3), true},
		{"two errors of the last", three(1, 1, 1), list(1, 2, 3), false},
		{"two errors of the last are allowed", three(0, 1, 2), list(1, 2, 3), true},
		{"an error of the first is not", three(0, 1, 2), list(1, 5, 3), false},
		{"a code of nobody", three(1, 1, 2), list(1, 0, 3), true},
		{"all are wrong", three(3, 3, 3), list(9, 9, 9), true},
		{"as many as may be wrong", three(10, 10, 10), list(0, 0, 0), true},
		{"code 10", three(3, 3, 3), list(1, 10, 3), false},
		{"code -1", three(3, 3, 3), list(-1, 2, 3), false},
		{"the greatest code", three(3, 3, 3), list(1, 2, math.MaxInt), false},
		{"a code too few", three(3, 3, 3), list(1, 2), false},
		{"a code too many", three(3, 3, 3), list(1, 2, 3, 4), false},
		{"no codes", three(3, 3, 3), nil, false},
		{"one coder", coding(list(0), list(4, 2)), list(4, 2), true},
		{"not the one coder's", coding(list(0), list(4, 2)), list(4, 3), false},
	} {
		if ok := sheet.ProveSolution(x.c, x.codes); ok != x.want {
			t.Errorf("%s: %v", x.name, ok)
		}
	}
}

// P2.7: the possible codes, and the fewest errors.
func TestCodesAndErrors(t *testing.T) {
	zeros, ones, twos := make([]int, 10), slices.Repeat(list(1), 10), slices.Repeat(list(2), 10)
	for _, x := range []struct {
		name   string
		c      sheet.Coding
		codes  [][]int
		errors int
	}{
		{"the example", three(1, 1, 1), lists(list(1), list(5), list(3)), 2},
		{"the example with 1, 1, 2", three(1, 1, 2), lists(list(1), allCodes(), list(3)), 2},
		{"the first is right", three(0, 1, 2), lists(list(1), list(2), list(3)), 3},
		{"all can be wrong", three(3, 3, 3), lists(allCodes(), allCodes(), allCodes()), 2},
		{"more can be wrong than there are", three(10, 10, 10), lists(allCodes(), allCodes(), allCodes()), 2},
		{"one coder", coding(list(0), list(7, 0)), lists(list(7), list(0)), 0},
		{"one coder, who can be wrong", coding(list(1), list(7)), lists(allCodes()), 0},
		{"one coder, once wrong", coding(list(1), list(7, 9)), lists(allCodes(), allCodes()), 0},
		{"two coders", coding(list(1, 1), list(7, 8), list(9, 8)), lists(allCodes(), list(8)), 1},
		{"two coders, each once wrong", coding(list(1, 1), list(7, 8), list(9, 6)), lists(list(7, 9), list(6, 8)), 2},
		{"codes rise", coding(list(1, 1), list(9, 0), list(0, 9)), lists(list(0, 9), list(0, 9)), 2},
		{"fewer errors are not allowed", coding(list(2, 0, 2), list(1, 1), list(2, 2), list(1, 1)), lists(list(2), list(2)), 4},
		{"ten codes", coding(list(7, 7, 6), zeros, ones, twos), slices.Repeat(lists(list(0, 1, 2)), 10), 20},
		{"ten codes, one of which is free", coding(list(7, 7, 7), zeros, ones, twos), slices.Repeat(lists(allCodes()), 10), 20},
		{"ten codes, all of which are free", coding(list(10, 10, 10), zeros, ones, zeros), slices.Repeat(lists(allCodes()), 10), 10},
	} {
		if l, e := sheet.Codes(x.c); !sameLists(l, x.codes) || e != api.OK {
			t.Errorf("Codes, %s: %v, %v", x.name, l, e)
		}
		if n, e := sheet.Errors(x.c); n != x.errors || e != api.OK {
			t.Errorf("Errors, %s: %d, %v", x.name, n, e)
		}
	}
}

// P2.6, P2.7: TestAllSolutions compares with all lists of codes of many codings.
func TestAllSolutions(t *testing.T) {
	failed, solved := 0, 0
	forCodings(t, func(t *testing.T, d *dice, c sheet.Coding) {
		fewest := math.MaxInt
		possible := make([][10]bool, len(c.Codes[0]))
		everyCodes(len(c.Codes[0]), func(codes []int) {
			ok := isSolution(c, codes)
			if sheet.ProveSolution(c, codes) != ok {
				t.Errorf("ProveSolution of %v, %v: %v", c, codes, !ok)
			}
			if !ok {
				return
			}
			_, sum := errorsOf(c, codes)
			fewest = min(fewest, sum)
			for n, code := range codes {
				possible[n][code] = true
			}
		})
		l, e := sheet.Codes(c)
		n, f := sheet.Errors(c)
		if fewest == math.MaxInt {
			failed++
			if len(l) != 0 || n != 0 || e != api.ErrFail || f != api.ErrFail {
				t.Errorf("Codes, Errors of %v: %v, %v; %d, %v", c, l, e, n, f)
			}
			return
		}
		solved++
		want := make([][]int, len(possible))
		for n := range possible {
			want[n] = slices.DeleteFunc(allCodes(), func(code int) bool { return !possible[n][code] })
		}
		if !sameLists(l, want) || n != fewest || e != api.OK || f != api.OK {
			t.Errorf("Codes, Errors of %v: %v, %v; %d, %v, not %v; %d", c, l, e, n, f, want, fewest)
		}
	})
	if failed < 20 || solved < 50 {
		t.Errorf("only %d codings have no solution, and %d have one", failed, solved)
	}
}
