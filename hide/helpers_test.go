package hide_test

import (
	"slices"
	"testing"

	"tithing/api"
	"tithing/hide"
)

func at(row, column int) hide.Cell { return hide.Cell{Row: row, Column: column} }

func cells(l ...hide.Cell) []hide.Cell { return l }

func to(low, high int) hide.Range { return hide.Range{Lo: low, Hi: high} }

func ranges(l ...hide.Range) []hide.Range { return l }

func list(l ...int) []int { return l }

func rows(l ...[]int) [][]int { return l }

func table(most int, l ...[]int) hide.Table { return hide.Table{Rows: l, Cap: most} }

func ask(c hide.Cell, below, above int) hide.Request {
	return hide.Request{Cell: c, Below: below, Above: above}
}

func asks(l ...hide.Request) []hide.Request { return l }

func same[T comparable](a, b [][]T) bool { return slices.EqualFunc(a, b, slices.Equal) }

// example is the table of the chapter's examples.
func example() hide.Table { return table(20, list(5, 1, 3), list(2, 8, 4), list(6, 0, 7)) }

// square has the four cells of two rows and two columns.
func square(a, b, c, d int) []hide.Cell { return cells(at(a, c), at(a, d), at(b, c), at(b, d)) }

// ring has six cells, two of each row and of each column.
func ring() []hide.Cell {
	return cells(at(0, 0), at(0, 1), at(1, 1), at(1, 2), at(2, 0), at(2, 2))
}

func cellsOf(t hide.Table) []hide.Cell {
	var l []hide.Cell
	for r, row := range t.Rows {
		for c := range row {
			l = append(l, at(r, c))
		}
	}
	return l
}

func valueOf(l [][]int, c hide.Cell) int { return l[c.Row][c.Column] }

func copyOfRows(l [][]int) [][]int {
	var out [][]int
	for _, row := range l {
		out = append(out, slices.Clone(row))
	}
	return out
}

func copyOf(t hide.Table) hide.Table { return hide.Table{Rows: copyOfRows(t.Rows), Cap: t.Cap} }

// members returns the cells whose bits are set.
func members(bits int, l []hide.Cell) []hide.Cell {
	var out []hide.Cell
	for i, c := range l {
		if bits>>i&1 == 1 {
			out = append(out, c)
		}
	}
	return out
}

// without returns the cells that are not among the others.
func without(l, others []hide.Cell) []hide.Cell {
	return slices.DeleteFunc(slices.Clone(l), func(c hide.Cell) bool { return slices.Contains(others, c) })
}

// byOrder compares cells as the chapter orders them.
func byOrder(a, b hide.Cell) int { return 10*(a.Row-b.Row) + a.Column - b.Column }

// join returns both lists as one, in the order of cells.
func join(a, b []hide.Cell) []hide.Cell {
	l := slices.Concat(a, b)
	slices.SortFunc(l, byOrder)
	return l
}

// forCandidates calls do with the rows of all candidates: the hidden cells get all values that do not exceed what their rows and columns have left.
func forCandidates(t hide.Table, hidden []hide.Cell, do func(l [][]int)) {
	l := copyOfRows(t.Rows)
	ofRow, ofColumn := map[int]int{}, map[int]int{}
	for _, c := range hidden {
		ofRow[c.Row] += valueOf(l, c)
		ofColumn[c.Column] += valueOf(l, c)
	}
	var fill func(rest []hide.Cell)
	fill = func(rest []hide.Cell) {
		if len(rest) == 0 {
			for _, c := range hidden {
				if ofRow[c.Row] != 0 || ofColumn[c.Column] != 0 {
					return
				}
			}
			do(l)
			return
		}
		c := rest[0]
		isLast := len(rest) == 1 || rest[1].Row != c.Row
		for n := range min(t.Cap, ofRow[c.Row], ofColumn[c.Column]) + 1 {
			if isLast && n != ofRow[c.Row] {
				continue
			}
			l[c.Row][c.Column] = n
			ofRow[c.Row] -= n
			ofColumn[c.Column] -= n
			fill(rest[1:])
			ofRow[c.Row] += n
			ofColumn[c.Column] += n
		}
	}
	fill(hidden)
}

// alone returns the ranges of the table if nothing is hidden.
func alone(t hide.Table) [][]hide.Range {
	var out [][]hide.Range
	for _, row := range t.Rows {
		var l []hide.Range
		for _, n := range row {
			l = append(l, to(n, n))
		}
		out = append(out, l)
	}
	return out
}

// triedRanges finds the ranges: all candidates are tried.
func triedRanges(t hide.Table, hidden []hide.Cell) [][]hide.Range {
	out := alone(t)
	forCandidates(t, hidden, func(l [][]int) {
		for _, c := range cellsOf(t) {
			r, n := out[c.Row][c.Column], valueOf(l, c)
			out[c.Row][c.Column] = to(min(r.Lo, n), max(r.Hi, n))
		}
	})
	return out
}

// cutRanges finds the ranges by all sets of lines. What the hidden cells of a set's rows have, less than those of its columns, is known but for the cells that are hidden elsewhere: none of them can be below 0 or above the cap, and this bounds a cell whose row is in the set and whose column is not.
func cutRanges(t hide.Table, hidden []hide.Cell) [][]hide.Range {
	out := alone(t)
	for _, c := range hidden {
		value := valueOf(t.Rows, c)
		up, down := t.Cap-value, value
		for bits := range 1 << 7 {
			hasRow := func(c hide.Cell) bool { return bits>>c.Row&1 == 1 }
			hasColumn := func(c hide.Cell) bool { return bits>>(3+c.Column)&1 == 1 }
			if !hasRow(c) || hasColumn(c) {
				continue
			}
			most, least := 0, 0
			for _, other := range without(hidden, cells(c)) {
				n := valueOf(t.Rows, other)
				switch {
				case hasRow(other) && !hasColumn(other):
					most, least = most+n, least+t.Cap-n
				case !hasRow(other) && hasColumn(other):
					most, least = most+t.Cap-n, least+n
				}
			}
			up, down = min(up, most), min(down, least)
		}
		out[c.Row][c.Column] = to(value-down, value+up)
	}
	return out
}

// satisfies tells what the chapter defines as satisfied, by the ranges of the publication.
func satisfies(t hide.Table, l [][]hide.Range, q hide.Request) bool {
	value, r := valueOf(t.Rows, q.Cell), l[q.Cell.Row][q.Cell.Column]
	return r.Lo <= value-q.Below && r.Hi >= value+q.Above
}

// firstExposed returns the number of the first request that is not satisfied, or -1.
func firstExposed(t hide.Table, hidden []hide.Cell, l []hide.Request) int {
	all := cutRanges(t, hidden)
	return slices.IndexFunc(l, func(q hide.Request) bool { return !satisfies(t, all, q) })
}

// bestOf finds the best set: all sets are tried.
func bestOf(t hide.Table, hidden []hide.Cell, l []hide.Request) (best []hide.Cell, some bool) {
	shown := without(cellsOf(t), hidden)
	for bits := range 1 << len(shown) {
		set := join(hidden, members(bits, shown))
		isBetter := !some || len(set) < len(best) || len(set) == len(best) && slices.CompareFunc(set, best, byOrder) < 0
		if isBetter && firstExposed(t, set, l) < 0 {
			best, some = set, true
		}
	}
	return best, some
}

// dice are thrown in the same way in each run.
type dice uint64

func (d *dice) upTo(most int) int {
	*d = *d*6364136223846793005 + 1442695040888963407
	return int(uint64(*d)>>33) % (most + 1)
}

func (d *dice) from(low, high int) int { return low + d.upTo(high-low) }

// of returns one of the list.
func (d *dice) of(l ...int) int { return l[d.upTo(len(l)-1)] }

// order returns the numbers below most in another order.
func (d *dice) order(most int) []int {
	var l []int
	for n := range most {
		l = slices.Insert(l, d.upTo(n), n)
	}
	return l
}

// near makes a number up to most, often one that is near to an end.
func (d *dice) near(most int) int {
	return d.of(d.upTo(most), d.upTo(most), d.upTo(min(3, most)), most-d.upTo(min(3, most)))
}

// throwTable makes a table of so many rows and columns.
func (d *dice) throwTable(rows, columns, most int) hide.Table {
	t := hide.Table{Cap: most}
	for range rows {
		var row []int
		for range columns {
			row = append(row, d.near(most))
		}
		t.Rows = append(t.Rows, row)
	}
	return t
}

// throwHidden hides some cells of the table.
func (d *dice) throwHidden(t hide.Table) []hide.Cell {
	thin := d.of(0, 0, 1, 1, 2, 3)
	return slices.DeleteFunc(cellsOf(t), func(hide.Cell) bool { return d.upTo(3) < thin })
}

// throwRequests asks for what can be, or for a little more, if all cells are hidden.
func (d *dice) throwRequests(t hide.Table, most, more int) []hide.Request {
	var l []hide.Request
	all := cutRanges(t, cellsOf(t))
	for range d.upTo(most) {
		c := at(d.upTo(len(t.Rows)-1), d.upTo(len(t.Rows[0])-1))
		value, r := valueOf(t.Rows, c), all[c.Row][c.Column]
		l = append(l, ask(c, min(d.near(value-r.Lo)+d.upTo(more), 1000), min(d.near(r.Hi-value)+d.upTo(more), 1000)))
	}
	return l
}

// publication is a table with some hidden cells.
type publication struct {
	t      hide.Table
	hidden []hide.Cell
}

// fixed are publications of tables of this file.
func fixed() []publication {
	t, p := example(), []publication{}
	for _, l := range [][]hide.Cell{nil, cells(at(1, 1)), square(0, 1, 0, 1), square(0, 1, 0, 2), square(0, 2, 1, 2), square(1, 2, 0, 2), ring(), cellsOf(t), cells(at(0, 0), at(0, 1), at(0, 2)), cells(at(0, 0), at(1, 0)), cells(at(0, 0), at(1, 1)), cells(at(0, 0), at(1, 1), at(2, 2))} {
		p = append(p, publication{t, l})
	}
	for _, t := range []hide.Table{table(0, list(0)), table(3, list(1, 2, 3, 0)), table(1, list(1), list(0), list(1)), table(1, list(1, 0, 0), list(0, 1, 0), list(0, 0, 1)), table(0, list(0, 0), list(0, 0)), table(2, list(2, 2, 2, 2), list(2, 2, 2, 2), list(2, 2, 2, 2)), table(9, list(4, 5), list(7, 0))} {
		p = append(p, publication{t, cellsOf(t)})
	}
	return p
}

// forPublications calls check with the publications of this file, and with so many others, with values up to one of most.
func forPublications(t *testing.T, many int, most []int, check func(t *testing.T, d *dice, p publication)) {
	t.Helper()
	d := dice(1)
	for _, p := range fixed() {
		check(t, &d, p)
	}
	for range many {
		x := d.throwTable(d.of(1, 2, 2, 3, 3), d.of(1, 2, 3, 3, 4, 4), d.of(most...))
		check(t, &d, publication{x, d.throwHidden(x)})
		if t.Failed() {
			return
		}
	}
}

func rangesOf(t *testing.T, p publication) [][]hide.Range {
	t.Helper()
	l, e := hide.Ranges(p.t, p.hidden)
	if e != api.OK {
		t.Fatalf("Ranges of %v: %v", p, e)
	}
	return l
}

// isSufficient asks Exposed whether all requests are satisfied.
func isSufficient(t *testing.T, p publication, l []hide.Request) bool {
	t.Helper()
	_, e := hide.Exposed(p.t, p.hidden, l)
	if e != api.OK && e != api.ErrNone {
		t.Fatalf("Exposed of %v, %v: %v", p, l, e)
	}
	return e == api.ErrNone
}
