package round_test

import (
	"math"
	"slices"
	"testing"

	"tithing/api"
	"tithing/round"
)

// checkAnswer reports a fault if the answer is not that one, or is not proved.
func checkAnswer(t *testing.T, x round.Table, want answer) {
	t.Helper()
	a := asked(t, x)
	if !a.is(want) {
		t.Fatalf("Ways, Best, Span of %v: %v, not %v", x, a, want)
	}
	if a.ways > 0 && (!round.ProveRounding(x, a.best, a.change) || round.ProveRounding(x, a.best, a.change-1)) {
		t.Fatalf("ProveRounding of %v: %v", x, a)
	}
}

// P9.1 to P9.5: the chapter's examples.
func TestExamples(t *testing.T) {
	x := example()
	checkAnswer(t, x, answer{4, 6, rows(list(5, 5), list(5, 0)), [][]round.Range{ranges(to(0, 5), to(0, 5)), ranges(to(5, 10), to(0, 5))}})
	other := rows(list(0, 5), list(10, 0))
	if n, e := round.Change(x, other); n != 10 || e != api.OK {
		t.Errorf("Change: %d, %v", n, e)
	}
	checkAnswer(t, with(x, fix(1, 0, 10)), answer{1, 10, other, alone(other)})
	checkAnswer(t, with(x, fix(1, 0, 15)), answer{})
	if r, e := round.Learn(5, 10); r != to(6, 14) || e != api.OK {
		t.Errorf("Learn: %v, %v", r, e)
	}
	if l, e := round.Divide(list(1, 1, 1), 5); !slices.Equal(l, list(2, 2, 1)) || e != api.OK {
		t.Errorf("Divide: %v, %v", l, e)
	}
	if l, e := round.Divide(list(3, 2, 2), 10); !slices.Equal(l, list(4, 3, 3)) || e != api.OK {
		t.Errorf("Divide: %v, %v", l, e)
	}
}

// P9.2, P9.3: tables whose roundings are plain.
func TestPlainRoundings(t *testing.T) {
	one := func(x round.Table, best ...[]int) { checkAnswer(t, x, answer{1, changeOf(x, best), best, alone(best)}) }
	one(table(2, list(0)), list(0))
	one(table(100, list(10000)), list(10000))
	one(table(7, list(7, 14), list(0, 21)), list(7, 14), list(0, 21))
	// The second column adds up to 10, so that just one of its cells rises.
	checkAnswer(t, table(10, list(10, 7), list(20, 3)), answer{2, 6, rows(list(10, 10), list(20, 0)), [][]round.Range{ranges(to(10, 10), to(0, 10)), ranges(to(20, 20), to(0, 10))}})
	one(with(table(10, list(10, 7), list(20, 3)), fix(1, 1, 10)), list(10, 0), list(20, 10))
	checkAnswer(t, table(2, list(1)), answer{2, 1, rows(list(0)), [][]round.Range{ranges(to(0, 2))}})
	checkAnswer(t, table(10, list(4)), answer{2, 4, rows(list(0)), [][]round.Range{ranges(to(0, 10))}})
	checkAnswer(t, table(10, list(6)), answer{2, 4, rows(list(10)), [][]round.Range{ranges(to(0, 10))}})
	checkAnswer(t, table(99, list(10000)), answer{2, 1, rows(list(9999)), [][]round.Range{ranges(to(9999, 10098))}})
	// A sum of 9 is rounded up at most once, one of 11 once or twice.
	up := to(0, 10)
	checkAnswer(t, table(10, list(3, 3, 3)), answer{4, 9, rows(list(0, 0, 0)), [][]round.Range{ranges(up, up, up)}})
	checkAnswer(t, table(10, list(3, 3, 5)), answer{6, 11, rows(list(0, 0, 10)), [][]round.Range{ranges(up, up, up)}})
	checkAnswer(t, table(10, list(3), list(5), list(3)), answer{6, 11, rows(list(0), list(10), list(0)), [][]round.Range{ranges(up), ranges(up), ranges(up)}})
	// A sum that is a multiple stays what it is, so that just one of four rises; of equal changes the later one.
	checkAnswer(t, table(8, list(2, 2, 2, 2)), answer{4, 12, rows(list(0, 0, 0, 8)), [][]round.Range{ranges(to(0, 8), to(0, 8), to(0, 8), to(0, 8))}})
	// In each row and in each column one of two rises.
	checkAnswer(t, table(10, list(5, 5), list(5, 5)), answer{2, 20, rows(list(0, 10), list(10, 0)), [][]round.Range{ranges(up, up), ranges(up, up)}})
	one(with(table(10, list(5, 5), list(5, 5)), fix(0, 0, 10)), list(10, 0), list(0, 10))
	one(with(table(10, list(5, 5), list(5, 5)), fix(1, 1, 0), fix(0, 1, 10)), list(0, 10), list(10, 0))
	// All sums of rows and columns could be rounded down, or all of them up; but the sum of all, which is 12, becomes 10 or 20.
	x := table(10, list(4, 0, 0), list(0, 4, 0), list(0, 0, 4))
	a := asked(t, x)
	if a.ways != 6 || a.change != 14 || !same(a.best, rows(list(0, 0, 0), list(0, 0, 0), list(0, 0, 10))) {
		t.Errorf("Ways, Best of %v: %v", x, a)
	}
}

// P9.3: fixes that can not hold.
func TestNoRounding(t *testing.T) {
	x := example()
	for what, l := range map[string][]round.Fix{
		"no multiple":                 fixes(fix(0, 0, 3)),
		"below the neighbours":        fixes(fix(1, 0, 0)),
		"above the neighbours":        fixes(fix(1, 0, 15)),
		"the greatest value":          fixes(fix(1, 1, 10100)),
		"two values of one cell":      fixes(fix(0, 0, 0), fix(0, 0, 5)),
		"two values, others between":  fixes(fix(0, 0, 5), fix(1, 1, 0), fix(0, 0, 5), fix(0, 0, 0)),
		"the sum of a row":            fixes(fix(0, 0, 0), fix(0, 1, 0)),
		"the sum of the other row":    fixes(fix(1, 0, 10), fix(1, 1, 5)),
		"the sum of a column":         fixes(fix(0, 0, 5), fix(1, 0, 10)),
		"the sum of the other column": fixes(fix(0, 1, 0), fix(1, 1, 0)),
		"the last fix of ten":         append(slices.Repeat(fixes(fix(0, 0, 5)), 9), fix(1, 1, 10)),
	} {
		checkAnswer(t, with(x, l...), answer{})
		if tried(with(x, l...)).ways > 0 {
			t.Errorf("%s: there are roundings", what)
		}
	}
	checkAnswer(t, with(table(7, list(7, 14), list(0, 21)), fix(1, 0, 7)), answer{})
	checkAnswer(t, with(table(7, list(7, 14), list(0, 21)), fix(0, 0, 0)), answer{})
}

// P9.1 to P9.3, P9.6, P9.9, P9.10: all roundings of tables are tried.
func TestByDefinition(t *testing.T) {
	none, one, many, proved := 0, 0, 0, 0
	forTables(t, 4000, 9, func(t *testing.T, d *dice, x round.Table) {
		want := tried(x)
		checkAnswer(t, x, want)
		switch want.ways {
		case 0:
			none++
		case 1:
			one++
		default:
			many++
		}
		forRoundings(x, func(l [][]int) {
			change := changeOf(x, l)
			n, e := round.Change(x, l)
			if n != change || e != api.OK || !round.ProveRounding(x, l, change) || round.ProveRounding(x, l, change-1) {
				t.Errorf("Change, ProveRounding of %v, %v: %d, %v, not %d", x, l, n, e, change)
			}
			proved++
		})
	})
	if none < 200 || one < 200 || many < 1000 || proved < 10000 {
		t.Errorf("only %d tables have no roundings, %d one, %d several, together %d", none, one, many, proved)
	}
}

// P9.2, P9.3: tables as great as they may be.
func TestGreatest(t *testing.T) {
	halves := table(100)
	ones := table(2)
	for range 5 {
		halves.Cells = append(halves.Cells, slices.Repeat(list(50), 4))
		ones.Cells = append(ones.Cells, slices.Repeat(list(9999), 4))
	}
	thirds := table(99, list(9933, 33, 66, 99), list(33, 9999, 33, 33), list(66, 66, 66, 66), list(1, 98, 50, 49), list(10000, 9901, 9950, 1))
	for _, x := range []round.Table{wide(), halves, ones, thirds, with(wide(), fix(0, 0, 0), fix(1, 1, 60), fix(2, 2, 10), fix(3, 3, 10), fix(4, 0, 100), fix(4, 3, 410), fix(0, 3, 40), fix(3, 0, 10000), fix(2, 2, 10), fix(1, 3, 0))} {
		want := tried(x)
		checkAnswer(t, x, want)
		if want.ways == 0 {
			t.Errorf("%v has no rounding", x)
		}
	}
	d := dice(7)
	for range 20 {
		x := d.throwTable(5, 4)
		checkAnswer(t, x, tried(x))
	}
	// In each of five rows two of four rise, and in each column two or three: 1860 ways.
	if n, e := round.Ways(ones); n != 1860 || e != api.OK {
		t.Errorf("Ways of %v: %d, %v", ones, n, e)
	}
}

// P9.1: the change of any numbers.
func TestChange(t *testing.T) {
	x := example()
	for _, y := range []struct {
		l    [][]int
		want int
	}{
		{x.Cells, 0}, {rows(list(0, 0), list(0, 0)), 15}, {rows(list(5, 5), list(5, 5)), 7}, {rows(list(10100, 0), list(6, 2)), 10101}, {rows(list(3, 4), list(6, 10100)), 10098},
		{rows(list(10100, 10100), list(10100, 10100)), 40385}, {rows(list(4, 3), list(7, 1)), 4}, {rows(list(1, 4), list(6, 2)), 2}, {rows(list(5, 5), list(5, 0)), 6},
	} {
		for _, l := range [][]round.Fix{nil, fixes(fix(0, 0, 0)), fixes(fix(1, 0, 15)), fixes(fix(0, 0, 0), fix(0, 0, 5))} {
			if n, e := round.Change(with(x, l...), y.l); n != y.want || e != api.OK {
				t.Errorf("Change of %v, fixes %v: %d, %v, not %d", y.l, l, n, e, y.want)
			}
		}
	}
	forTables(t, 500, 20, func(t *testing.T, d *dice, x round.Table) {
		l := copyOfRows(x.Cells)
		for _, row := range l {
			for c := range row {
				row[c] = d.of(row[c], d.upTo(10100), 0, 10100)
			}
		}
		if n, e := round.Change(x, l); n != changeOf(x, l) || e != api.OK {
			t.Errorf("Change of %v, %v: %d, %v, not %d", x, l, n, e, changeOf(x, l))
		}
	})
}

// P9.6: all numbers near to the cells of small tables are tried, with wrong ones.
func TestProveRounding(t *testing.T) {
	right, wrong := 0, 0
	for _, x := range []round.Table{example(), table(2, list(1, 2), list(0, 3)), table(3, list(1, 1), list(1, 1)), with(example(), fix(0, 1, 5)), with(example(), fix(0, 1, 4)), table(4, list(2, 2), list(2, 2))} {
		step := list(-1, 0, 1, x.Base, 2*x.Base, 3*x.Base)
		for n := range 6 * 6 * 6 * 6 {
			l := rows(list(step[n%6], step[n/6%6]), list(step[n/36%6], step[n/216]))
			is := isRounding(x, l)
			if is {
				right++
			} else {
				wrong++
			}
			for _, change := range list(changeOf(x, l), changeOf(x, l)+1, math.MaxInt) {
				if round.ProveRounding(x, l, change) != is {
					t.Errorf("ProveRounding of %v, %v, %d: %v", x, l, change, !is)
				}
			}
			for _, change := range list(changeOf(x, l)-1, -1, math.MinInt) {
				if round.ProveRounding(x, l, change) {
					t.Errorf("ProveRounding of %v, %v, %d", x, l, change)
				}
			}
		}
	}
	if right < 10 || wrong < 6000 {
		t.Errorf("only %d are roundings, and %d none", right, wrong)
	}
}

// P9.6: one thing is wrong.
func TestWrongRounding(t *testing.T) {
	x := table(10, list(4, 0, 0), list(0, 4, 0), list(0, 0, 4))
	for what, y := range map[string]struct {
		x round.Table
		l [][]int
	}{
		"nothing":                   {example(), nil},
		"no numbers":                {example(), rows(nil, nil)},
		"one row":                   {example(), rows(list(5, 5))},
		"three rows":                {example(), rows(list(5, 5), list(5, 0), list(0, 0))},
		"an empty row more":         {example(), rows(list(5, 5), list(5, 0), nil)},
		"a shorter row":             {example(), rows(list(5, 5), list(5))},
		"a longer row":              {example(), rows(list(5, 5), list(5, 0, 0))},
		"a column more":             {example(), rows(list(5, 5, 0), list(5, 0, 0))},
		"5 columns":                 {example(), rows(list(5, 5, 0, 0, 0), list(5, 0, 0, 0, 0))},
		"the cells":                 {example(), example().Cells},
		"a number below":            {example(), rows(list(5, 5), list(0, 0))},
		"a number above":            {example(), rows(list(5, 10), list(5, 0))},
		"a number below 0":          {table(5, list(3, 2)), rows(list(5, -5))},
		"a number between":          {example(), rows(list(5, 3), list(5, 0))},
		"the sum of a row":          {table(10, list(4, 4), list(0, 0)), rows(list(10, 10), list(0, 0))},
		"the sum of a column":       {table(10, list(4, 0), list(4, 0)), rows(list(10, 0), list(10, 0))},
		"the sum of the last row":   {table(10, list(0, 0), list(4, 4)), rows(list(0, 0), list(10, 10))},
		"the sum of the last one":   {table(10, list(0, 4), list(0, 4)), rows(list(0, 10), list(0, 10))},
		"the sum of all, too low":   {x, rows(list(0, 0, 0), list(0, 0, 0), list(0, 0, 0))},
		"the sum of all, too high":  {x, rows(list(10, 0, 0), list(0, 10, 0), list(0, 0, 10))},
		"a fix":                     {with(example(), fix(0, 0, 0)), rows(list(5, 5), list(5, 0))},
		"the last fix":              {with(example(), fix(0, 0, 5), fix(0, 1, 5), fix(1, 0, 5), fix(1, 1, 5)), rows(list(5, 5), list(5, 0))},
		"one of two fixes":          {with(example(), fix(0, 0, 5), fix(0, 0, 0)), rows(list(5, 5), list(5, 0))},
		"a sum that wraps around":   {table(2, list(0, 0)), rows(list(math.MinInt, math.MinInt))},
		"a difference that does so": {table(2, list(1)), rows(list(math.MinInt))},
		"the greatest numbers":      {table(2, list(0, 2)), rows(list(math.MaxInt, math.MaxInt))},
	} {
		if round.ProveRounding(y.x, y.l, math.MaxInt) {
			t.Errorf("ProveRounding: %s", what)
		}
	}
	for _, l := range [][][]int{rows(list(10, 0, 0), list(0, 0, 0), list(0, 0, 0)), rows(list(10, 0, 0), list(0, 10, 0), list(0, 0, 0))} {
		if !round.ProveRounding(x, l, 30) {
			t.Errorf("ProveRounding of %v is false", l)
		}
	}
	if !round.ProveRounding(with(example(), fix(0, 0, 5), fix(0, 0, 5), fix(1, 1, 0)), rows(list(5, 5), list(5, 0)), 6) {
		t.Error("ProveRounding with fixes that hold is false")
	}
}

// P9.4, P9.12: the ends of all ranges, for all bases.
func TestLearn(t *testing.T) {
	for base := 2; base <= 100; base++ {
		for number := 0; number <= 10100; number += base {
			r, e := round.Learn(base, number)
			if e != api.OK || !isNeighbourBy(base, r.Lo, number) || !isNeighbourBy(base, r.Hi, number) {
				t.Fatalf("Learn of %d to the base %d: %v, %v", number, base, r, e)
			}
			if r.Lo > 0 && isNeighbourBy(base, r.Lo-1, number) || isNeighbourBy(base, r.Hi+1, number) || r.Lo > number || r.Hi < number {
				t.Fatalf("Learn of %d to the base %d: %v is too narrow", number, base, r)
			}
		}
	}
	for _, x := range []struct {
		base, number int
		want         round.Range
	}{{2, 0, to(0, 1)}, {2, 2, to(1, 3)}, {5, 0, to(0, 4)}, {5, 5, to(1, 9)}, {100, 0, to(0, 99)}, {100, 10100, to(10001, 10199)}, {99, 10098, to(10000, 10196)}, {3, 10098, to(10096, 10100)}} {
		if r, e := round.Learn(x.base, x.number); r != x.want || e != api.OK {
			t.Errorf("Learn of %d to the base %d: %v, %v", x.number, x.base, r, e)
		}
	}
}

// isNeighbourBy tells whether a multiple is a neighbour of n, of which it is less than the base away.
func isNeighbourBy(base, n, multiple int) bool { return n-base < multiple && multiple < n+base }

// dividedBy divides the total as the chapter says: parts are sorted by what their shares lost.
func dividedBy(weights []int, total int) []int {
	var parts, lost []int
	left, all := total, sumOf(weights)
	for _, w := range weights {
		parts = append(parts, total*w/all)
		lost = append(lost, total*w%all)
		left -= total * w / all
	}
	by := make([]int, len(weights))
	for i := range by {
		by[i] = i
	}
	slices.SortStableFunc(by, func(a, b int) int { return lost[b] - lost[a] })
	for _, i := range by[:left] {
		parts[i]++
	}
	return parts
}

// P9.5: divided totals that are plain, and any.
func TestDivide(t *testing.T) {
	for _, x := range []struct {
		weights []int
		total   int
		want    []int
	}{
		{list(7), 0, list(0)}, {list(7), 100000, list(100000)}, {list(0, 7), 9, list(0, 9)}, {list(1, 2, 3), 0, list(0, 0, 0)}, {list(1, 2, 3), 6, list(1, 2, 3)},
		{list(1, 1), 1, list(1, 0)}, {list(1, 1, 1), 1, list(1, 0, 0)}, {list(1, 1, 1), 2, list(1, 1, 0)}, {list(0, 1, 1, 0, 1), 2, list(0, 1, 1, 0, 0)}, {list(1, 2), 1, list(0, 1)}, {list(2, 1), 1, list(1, 0)},
		{list(1, 6, 3), 5, list(1, 3, 1)}, {list(10000, 1), 100000, list(99990, 10)}, {list(10000, 1), 1, list(1, 0)}, {list(5, 3, 2), 9, list(4, 3, 2)}, {list(3, 2), 100, list(60, 40)}, {list(5, 1), 60, list(50, 10)},
		{slices.Repeat(list(1), 12), 11, append(slices.Repeat(list(1), 11), 0)}, {slices.Repeat(list(10000), 12), 100000, append(slices.Repeat(list(8334), 4), slices.Repeat(list(8333), 8)...)},
		{list(1, 10000, 0, 9999, 5000), 12345, list(0, 4938, 0, 4938, 2469)},
	} {
		if l, e := round.Divide(x.weights, x.total); !slices.Equal(l, x.want) || e != api.OK {
			t.Errorf("Divide of %v, %d: %v, %v, not %v", x.weights, x.total, l, e, x.want)
		}
	}
	d := dice(3)
	for range 20000 {
		weights, total := d.weights(), d.of(d.upTo(10), d.upTo(100), d.upTo(100000), 100000)
		if l, e := round.Divide(weights, total); !slices.Equal(l, dividedBy(weights, total)) || e != api.OK {
			t.Fatalf("Divide of %v, %d: %v, %v, not %v", weights, total, l, e, dividedBy(weights, total))
		}
	}
}

// weights makes weights, at least one of them not 0.
func (d *dice) weights() []int {
	most := d.of(1, 3, 10, 1000, 10000)
	var l []int
	for range d.from(1, 12) {
		l = append(l, d.of(d.upTo(most), d.upTo(most), most, 0))
	}
	l[d.upTo(len(l)-1)] = d.from(1, most)
	return l
}
