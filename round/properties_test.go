package round_test

import (
	"slices"
	"testing"

	"tithing/api"
	"tithing/round"
)

// P9.7: the best rounding adds up, and each number is near to its cell.
func TestAddsUp(t *testing.T) {
	risen := 0
	forTables(t, 2000, 20, func(t *testing.T, d *dice, x round.Table) {
		a := asked(t, x)
		if a.ways == 0 {
			return
		}
		if !addsUp(x, a.best) {
			t.Errorf("Best of %v: %v does not add up", x, a.best)
		}
		for r, row := range x.Cells {
			for c, n := range row {
				far := a.best[r][c] - n
				if far <= -x.Base || far >= x.Base || a.best[r][c]%x.Base != 0 {
					t.Errorf("Best of %v: %v is far from %d", x, a.best, n)
				}
				if far > 0 {
					risen++
				}
			}
		}
	})
	if risen < 2000 {
		t.Errorf("only %d numbers rise", risen)
	}
}

// P9.8: without fixes there is a rounding.
func TestAlways(t *testing.T) {
	several := 0
	forTables(t, 3000, 20, func(t *testing.T, d *dice, x round.Table) {
		x.Fixes = nil
		a := asked(t, x)
		if a.ways == 0 {
			t.Errorf("%v has no rounding", x)
		}
		if a.ways > 1 {
			several++
		}
	})
	if several < 1500 {
		t.Errorf("only %d have several roundings", several)
	}
}

// wander makes a rounding of a table that has one: cells are fixed to any of their neighbours, as long as there is a rounding.
func (d *dice) wander(x round.Table) [][]int {
	l, _, _ := round.Best(x)
	for range 12 {
		more := with(x, d.throwFix(x))
		if other, _, e := round.Best(more); e == api.OK {
			l, x = other, more
		}
	}
	return l
}

// P9.9, P9.10: no rounding of a great table is better than the best one, and each is within the ranges.
func TestAnyRounding(t *testing.T) {
	worse, later, outside := 0, 0, 0
	forTables(t, 1500, 20, func(t *testing.T, d *dice, x round.Table) {
		x.Fixes = x.Fixes[:min(2, len(x.Fixes))]
		a := asked(t, x)
		if a.ways == 0 {
			return
		}
		l := d.wander(x)
		if !isRounding(x, l) {
			t.Fatalf("%v is no rounding of %v", l, x)
		}
		change := changeOf(x, l)
		by := order(l, a.best)
		switch {
		case change < a.change || change == a.change && by < 0:
			t.Errorf("Best of %v: %v, but %v is better", x, a.best, l)
		case change > a.change:
			worse++
		case by > 0:
			later++
		}
		for r, row := range l {
			for c, n := range row {
				if s := a.span[r][c]; n < s.Lo || n > s.Hi {
					outside++
				}
			}
		}
		if outside > 0 {
			t.Errorf("Span of %v: %v; a rounding: %v", x, a.span, l)
		}
	})
	if worse < 500 || later < 10 {
		t.Errorf("only %d are worse, and %d come later", worse, later)
	}
}

// P9.10: if there is one rounding, all ranges have its numbers alone; both ends of each range are those of roundings.
func TestSpan(t *testing.T) {
	one, wide, narrow := 0, 0, 0
	forTables(t, 700, 20, func(t *testing.T, d *dice, x round.Table) {
		x.Fixes = x.Fixes[:min(9, len(x.Fixes))]
		a := asked(t, x)
		if a.ways == 1 {
			one++
			if !same(a.span, alone(a.best)) {
				t.Errorf("Span of %v: %v, but there is just %v", x, a.span, a.best)
			}
		}
		for r, row := range a.span {
			for c, s := range row {
				low, high := neighboursOf(x.Base, x.Cells[r][c])
				for _, n := range list(low, high) {
					more, e := round.Ways(with(x, fix(r, c, n)))
					if e != api.OK || (more > 0) != (n == s.Lo || n == s.Hi) {
						t.Errorf("Span of %v: %v; with %d at %d/%d there are %d ways, %v", x, s, n, r, c, more, e)
					}
				}
				switch {
				case s.Lo < s.Hi:
					wide++
				case low < high:
					narrow++
				}
			}
		}
	})
	if one < 50 || wide < 1000 || narrow < 200 {
		t.Errorf("only %d tables have one rounding, %d ranges are wide, and %d narrow", one, wide, narrow)
	}
}

// P9.11: with a further fix.
func TestFurtherFix(t *testing.T) {
	fewer, greater, halves := 0, 0, 0
	forTables(t, 700, 20, func(t *testing.T, d *dice, x round.Table) {
		x.Fixes = x.Fixes[:min(9, len(x.Fixes))]
		a := asked(t, x)
		check := func(f round.Fix) int {
			b := asked(t, with(x, f))
			if b.ways > a.ways || b.ways > 0 && b.change < a.change {
				t.Errorf("%v: %v; with %v: %v", x, a, f, b)
			}
			if b.ways < a.ways {
				fewer++
			}
			if b.ways > 0 && b.change > a.change {
				greater++
			}
			return b.ways
		}
		for r, row := range x.Cells {
			for c, n := range row {
				low, high := neighboursOf(x.Base, n)
				parts := check(fix(r, c, low))
				if low < high {
					parts += check(fix(r, c, high))
					halves++
				}
				if parts != a.ways {
					t.Errorf("%v has %d roundings; with both fixes of %d/%d %d", x, a.ways, r, c, parts)
				}
				for _, wrong := range list(low+1, low-x.Base, high+x.Base) {
					if wrong >= 0 && wrong <= 10100 && wrong != high && check(fix(r, c, wrong)) != 0 {
						t.Errorf("%v has roundings with %d at %d/%d", x, wrong, r, c)
					}
				}
			}
		}
		// A fix that is known changes nothing.
		if len(x.Fixes) > 0 && !asked(t, with(x, x.Fixes[0])).is(a) {
			t.Errorf("%v: %v; with the first fix again: %v", x, a, asked(t, with(x, x.Fixes[0])))
		}
	})
	if fewer < 1000 || greater < 500 || halves < 1000 {
		t.Errorf("only %d fixes leave fewer roundings, %d a greater change, and %d divide them", fewer, greater, halves)
	}
}

// P9.12: counts that are rounded are in the ranges that are learnt.
func TestLearnt(t *testing.T) {
	check := func(base, count, number int) {
		if r, e := round.Learn(base, number); e != api.OK || count < r.Lo || count > r.Hi {
			t.Fatalf("Learn of %d to the base %d: %v, %v; it was %d", number, base, r, e, count)
		}
	}
	for base := 2; base <= 100; base++ {
		for count := base % 7; count <= 10000; count += 7 {
			x := table(base, list(count))
			if l, _, e := round.Best(x); e != api.OK {
				t.Fatalf("Best of %v: %v", x, e)
			} else {
				check(base, count, l[0][0])
			}
		}
	}
	learnt := 0
	forTables(t, 1000, 20, func(t *testing.T, d *dice, x round.Table) {
		for r, row := range asked(t, x).span {
			for c, s := range row {
				check(x.Base, x.Cells[r][c], s.Lo)
				check(x.Base, x.Cells[r][c], s.Hi)
				learnt++
			}
		}
	})
	if learnt < 2000 {
		t.Errorf("only %d cells are learnt", learnt)
	}
}

// reordered returns the list in that order.
func reordered[T any](l []T, order []int) []T {
	var out []T
	for _, n := range order {
		out = append(out, l[n])
	}
	return out
}

// moved returns the fixes where their cells are now.
func moved(l []round.Fix, place func(row, column int) (int, int)) []round.Fix {
	var out []round.Fix
	for _, f := range l {
		r, c := place(f.Row, f.Column)
		out = append(out, fix(r, c, f.Value))
	}
	return out
}

// P9.13: rows and columns exchanged; P7: rows, columns and fixes in another order.
func TestTurned(t *testing.T) {
	turns, orders, several := 0, 0, 0
	forTables(t, 1500, 20, func(t *testing.T, d *dice, x round.Table) {
		a := asked(t, x)
		check := func(what string, cells [][]int, spanOf func(l [][]round.Range) [][]round.Range, place func(row, column int) (int, int)) {
			y, span := round.Table{Base: x.Base, Cells: cells, Fixes: moved(x.Fixes, place)}, a.span
			if a.ways > 0 {
				span = spanOf(span)
			}
			if b := asked(t, y); b.ways != a.ways || b.change != a.change || !same(b.span, span) {
				t.Errorf("%v: %v; %s, %v: %v", x, a, what, y, b)
			}
		}
		if len(x.Cells) <= 4 {
			check("turned", turned(x.Cells), turned[round.Range], func(r, c int) (int, int) { return c, r })
			turns++
		}
		byRow, byColumn := d.order(len(x.Cells)), d.order(len(x.Cells[0]))
		rowsOf := func(l [][]round.Range) [][]round.Range { return reordered(l, byRow) }
		columnsOf := func(l [][]round.Range) [][]round.Range { return turned(reordered(turned(l), byColumn)) }
		check("rows in another order", reordered(x.Cells, byRow), rowsOf, func(r, c int) (int, int) { return slices.Index(byRow, r), c })
		check("columns in another order", turned(reordered(turned(x.Cells), byColumn)), columnsOf, func(r, c int) (int, int) { return r, slices.Index(byColumn, c) })
		if !slices.IsSorted(byRow) || !slices.IsSorted(byColumn) {
			orders++
		}
		y := x
		y.Fixes = reordered(x.Fixes, d.order(len(x.Fixes)))
		if b := asked(t, y); !b.is(a) {
			t.Errorf("%v: %v; fixes in another order, %v: %v", x, a, y, b)
		}
		if a.ways > 1 {
			several++
		}
	})
	if turns < 500 || orders < 500 || several < 500 {
		t.Errorf("only %d are turned, %d in another order, and %d have several roundings", turns, orders, several)
	}
}

// P9.14: what parts of a total promise.
func TestShares(t *testing.T) {
	d := dice(5)
	rounded, equal, scaled := 0, 0, 0
	for range 10000 {
		weights, total := d.weights(), d.of(d.upTo(10), d.upTo(100), d.upTo(100000))
		l, e := round.Divide(weights, total)
		if e != api.OK || len(l) != len(weights) || sumOf(l) != total {
			t.Fatalf("Divide of %v, %d: %v, %v", weights, total, l, e)
		}
		all := sumOf(weights)
		for i, part := range l {
			// Its share is total * weight / all.
			if far := part*all - total*weights[i]; far <= -all || far >= all {
				t.Fatalf("Divide of %v, %d: %v; the part %d is far from its share", weights, total, l, i)
			} else if far != 0 {
				rounded++
			}
			for j, other := range l {
				if weights[i] > weights[j] && part < other || weights[i] == weights[j] && i < j && part < other {
					t.Fatalf("Divide of %v, %d: %v; the part %d is smaller than %d", weights, total, l, i, j)
				}
				if weights[i] == weights[j] && part > other {
					equal++
				}
			}
		}
		by := d.from(1, 10000/slices.Max(weights))
		var times []int
		for _, w := range weights {
			times = append(times, w*by)
		}
		if l2, e := round.Divide(times, total); !slices.Equal(l, l2) || e != api.OK {
			t.Fatalf("Divide of %v, %d: %v; of %v: %v, %v", weights, total, l, times, l2, e)
		}
		if by > 1 {
			scaled++
		}
	}
	if rounded < 10000 || equal < 500 || scaled < 2000 {
		t.Errorf("only %d parts are rounded, %d are greater than those of equal weights, and %d are of multiplied weights", rounded, equal, scaled)
	}
}

// P9.15: all cells are multiples.
func TestMultiples(t *testing.T) {
	forTables(t, 1000, 20, func(t *testing.T, d *dice, x round.Table) {
		x = copyOf(x)
		x.Fixes = nil
		for _, row := range x.Cells {
			for c := range row {
				row[c] -= row[c] % x.Base
			}
		}
		checkAnswer(t, x, answer{1, 0, x.Cells, alone(x.Cells)})
		for r, row := range x.Cells {
			for c, n := range row {
				if !asked(t, with(x, fix(r, c, n))).is(asked(t, x)) || asked(t, with(x, fix(r, c, n+x.Base))).ways != 0 {
					t.Errorf("%v with fixes of %d/%d", x, r, c)
				}
			}
		}
	})
}
