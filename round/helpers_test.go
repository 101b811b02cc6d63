package round_test

import (
	"slices"
	"testing"

	"tithing/api"
	"tithing/round"
)

func to(low, high int) round.Range { return round.Range{Lo: low, Hi: high} }

func ranges(l ...round.Range) []round.Range { return l }

func fix(row, column, value int) round.Fix {
	return round.Fix{Row: row, Column: column, Value: value}
}

func fixes(l ...round.Fix) []round.Fix { return l }

func list(l ...int) []int { return l }

func rows(l ...[]int) [][]int { return l }

func table(base int, l ...[]int) round.Table { return round.Table{Base: base, Cells: l} }

// with returns the table with further fixes.
func with(t round.Table, l ...round.Fix) round.Table {
	t.Fixes = slices.Concat(t.Fixes, l)
	return t
}

func same[T comparable](a, b [][]T) bool { return slices.EqualFunc(a, b, slices.Equal) }

// example is the table of the chapter's examples.
func example() round.Table { return table(5, list(3, 4), list(6, 2)) }

// wide has as many rows and columns as a table may have, and no multiple of its base.
func wide() round.Table {
	return table(10, list(3, 14, 25, 36), list(47, 58, 69, 1), list(5, 5, 5, 5), list(9999, 1, 9991, 9), list(102, 203, 304, 405))
}

func copyOfRows(l [][]int) [][]int {
	var out [][]int
	for _, row := range l {
		out = append(out, slices.Clone(row))
	}
	return out
}

func copyOf(t round.Table) round.Table {
	return round.Table{Base: t.Base, Cells: copyOfRows(t.Cells), Fixes: slices.Clone(t.Fixes)}
}

// neighboursOf finds the neighbours of a number: multiple after multiple is tried.
func neighboursOf(base, n int) (low, high int) {
	for high < n {
		high += base
	}
	low = high
	if high > n {
		low -= base
	}
	return low, high
}

func isNeighbour(base, n, rounded int) bool {
	low, high := neighboursOf(base, n)
	return rounded == low || rounded == high
}

func sumOf(l []int) int {
	sum := 0
	for _, n := range l {
		sum += n
	}
	return sum
}

// turned exchanges rows and columns.
func turned[T any](l [][]T) [][]T {
	out := make([][]T, len(l[0]))
	for _, row := range l {
		for c, x := range row {
			out[c] = append(out[c], x)
		}
	}
	return out
}

// addsUp tells what the chapter defines for sums: those of rows, of columns and of all.
func addsUp(t round.Table, l [][]int) bool {
	for r, row := range t.Cells {
		if !isNeighbour(t.Base, sumOf(row), sumOf(l[r])) {
			return false
		}
	}
	columns := turned(t.Cells)
	for c, column := range turned(l) {
		if !isNeighbour(t.Base, sumOf(columns[c]), sumOf(column)) {
			return false
		}
	}
	return isNeighbour(t.Base, sumOf(slices.Concat(t.Cells...)), sumOf(slices.Concat(l...)))
}

// isRounding tells what the chapter defines as a rounding, of numbers of any shape and size.
func isRounding(t round.Table, l [][]int) bool {
	if len(l) != len(t.Cells) {
		return false
	}
	for r, row := range t.Cells {
		if len(l[r]) != len(row) {
			return false
		}
		for c, n := range row {
			if !isNeighbour(t.Base, n, l[r][c]) {
				return false
			}
		}
	}
	broken := func(f round.Fix) bool { return l[f.Row][f.Column] != f.Value }
	return !slices.ContainsFunc(t.Fixes, broken) && addsUp(t, l)
}

// changeOf tells what the chapter defines as the change of numbers.
func changeOf(t round.Table, l [][]int) int {
	change := 0
	for r, row := range t.Cells {
		for c, n := range row {
			change += max(n, l[r][c]) - min(n, l[r][c])
		}
	}
	return change
}

// order compares the numbers of two tables at the first cell at which they differ.
func order(a, b [][]int) int { return slices.Compare(slices.Concat(a...), slices.Concat(b...)) }

// forRoundings calls do with all roundings: each cell becomes each of its neighbours.
func forRoundings(t round.Table, do func(l [][]int)) {
	l := copyOfRows(t.Cells)
	width := len(t.Cells[0])
	var fill func(cell int)
	fill = func(cell int) {
		if cell == len(l)*width {
			if isRounding(t, l) {
				do(l)
			}
			return
		}
		r, c := cell/width, cell%width
		// A row that is full, and wrong, is not continued.
		if c == 0 && r > 0 && !isNeighbour(t.Base, sumOf(t.Cells[r-1]), sumOf(l[r-1])) {
			return
		}
		low, high := neighboursOf(t.Base, t.Cells[r][c])
		for n := low; n <= high; n += t.Base {
			l[r][c] = n
			fill(cell + 1)
		}
	}
	fill(0)
}

// answer is what the package tells of a table's roundings.
type answer struct {
	ways, change int
	best         [][]int
	span         [][]round.Range
}

func (a answer) is(b answer) bool {
	return a.ways == b.ways && a.change == b.change && same(a.best, b.best) && same(a.span, b.span)
}

// tried finds the answer: all roundings are tried.
func tried(t round.Table) answer {
	var a answer
	forRoundings(t, func(l [][]int) {
		change := changeOf(t, l)
		if a.ways == 0 || change < a.change || change == a.change && order(l, a.best) < 0 {
			a.best, a.change = copyOfRows(l), change
		}
		if a.ways == 0 {
			a.span = alone(l)
		}
		for r, row := range l {
			for c, n := range row {
				a.span[r][c] = to(min(a.span[r][c].Lo, n), max(a.span[r][c].Hi, n))
			}
		}
		a.ways++
	})
	return a
}

// alone returns ranges that have just the numbers.
func alone(l [][]int) [][]round.Range {
	var out [][]round.Range
	for _, row := range l {
		var of []round.Range
		for _, n := range row {
			of = append(of, to(n, n))
		}
		out = append(out, of)
	}
	return out
}

// asked returns the answer of the package, and tests which errors it has.
func asked(t *testing.T, x round.Table) answer {
	t.Helper()
	var a answer
	var e, e2, e3 api.Errno
	a.ways, e = round.Ways(x)
	a.best, a.change, e2 = round.Best(x)
	a.span, e3 = round.Span(x)
	due := api.OK
	if a.ways == 0 {
		due = api.ErrFail
	}
	if e != api.OK || e2 != due || e3 != due || a.ways < 0 {
		t.Fatalf("Ways, Best, Span of %v: %v; the errors %v, %v, %v", x, a, e, e2, e3)
	}
	if a.ways == 0 && !a.is(answer{}) {
		t.Fatalf("Ways, Best, Span of %v: %v, without any rounding", x, a)
	}
	return a
}

// dice are thrown in the same way in each run.
type dice uint64

func (d *dice) upTo(most int) int {
	*d = *d*6364136223846793005 + 1442695040888963407
	return int(uint64(*d)>>33) % (most + 1)
}

func (d *dice) from(low, high int) int { return low + d.upTo(high-low) }

// of returns one of the list.
func (d *dice) of(l ...int) int { return l[d.upTo(len(l)-1)] }

// order returns the numbers below most in another order.
func (d *dice) order(most int) []int {
	var l []int
	for n := range most {
		l = slices.Insert(l, d.upTo(n), n)
	}
	return l
}

// base makes a base, often a small one or the greatest.
func (d *dice) base() int { return d.of(2, 3, 4, 5, 10, d.from(2, 100), 100) }

// count makes a count up to most, often one that is near to a multiple, or in the middle of two.
func (d *dice) count(base, most int) int {
	n := d.upTo(most)
	switch d.upTo(5) {
	case 0:
		n -= n % base
	case 1:
		n += d.from(-1, 1) - n%base
	case 2:
		n += base/2 - n%base
	}
	return min(max(0, n), 10000)
}

// throwTable makes a table of so many rows and columns.
func (d *dice) throwTable(rows, columns int) round.Table {
	t := round.Table{Base: d.base()}
	most := d.of(t.Base, t.Base, 5*t.Base, 100, 10000)
	for range rows {
		var row []int
		for range columns {
			row = append(row, d.count(t.Base, most))
		}
		t.Cells = append(t.Cells, row)
	}
	return t
}

// throwFix makes a fix of a cell, mostly to one of its neighbours.
func (d *dice) throwFix(t round.Table) round.Fix {
	r, c := d.upTo(len(t.Cells)-1), d.upTo(len(t.Cells[0])-1)
	low, high := neighboursOf(t.Base, t.Cells[r][c])
	if d.upTo(15) == 0 {
		return fix(r, c, d.of(max(0, low-t.Base), min(10100, high+t.Base), t.Cells[r][c], 0, 10100))
	}
	return fix(r, c, d.of(low, high))
}

// fixed are tables of this file.
func fixed() []round.Table {
	return []round.Table{
		example(), with(example(), fix(1, 0, 10)), with(example(), fix(1, 0, 15)), with(example(), fix(0, 0, 0), fix(0, 0, 0)), with(example(), fix(0, 0, 0), fix(0, 0, 5)),
		table(2, list(0)), table(2, list(1)), table(100, list(10000)), table(99, list(10000)), table(3, list(1, 1, 1)), table(3, list(1), list(1), list(2)), table(10, list(5, 5), list(5, 5)), table(7, list(7, 14), list(0, 21)),
	}
}

// forTables calls check with the tables of this file, and with so many others of at most so many cells.
func forTables(t *testing.T, many, cells int, check func(t *testing.T, d *dice, x round.Table)) {
	t.Helper()
	d := dice(1)
	for _, x := range fixed() {
		check(t, &d, x)
	}
	for done := 0; done < many; {
		rows, columns := d.from(1, 5), d.from(1, 4)
		if rows*columns > cells {
			continue
		}
		x := d.throwTable(rows, columns)
		for range d.of(0, 0, 1, 1, 2, 3, d.upTo(10)) {
			x.Fixes = append(x.Fixes, d.throwFix(x))
		}
		check(t, &d, x)
		if t.Failed() {
			return
		}
		done++
	}
}
