package hide

import (
	"iter"
	"maps"
	"slices"

	"tithing/api"
)

// marks tell which cells are hidden.
type marks [api.MaxHideRows][api.MaxHideColumns]bool

// publication is a table at work, with its hidden cells.
type publication struct {
	Table
	hidden marks
}

// line is a row or a column.
type line struct {
	isColumn bool
	number   int
}

func (c Cell) row() line { return line{false, c.Row} }

func (c Cell) column() line { return line{true, c.Column} }

// across returns the line of the cell that is not this one, if this is one of its two lines.
func (l line) across(c Cell) (other line, is bool) {
	switch l {
	case c.row():
		return c.column(), true
	case c.column():
		return c.row(), true
	}
	return line{}, false
}

// read reads a table with its hidden cells; its error is theirs.
func read(t Table, hidden []Cell) (publication, api.Errno) {
	if e := CheckTable(t); e != api.OK {
		return publication{}, e
	}
	isCell := t.has
	if !every(hidden, isCell) || !rises(hidden) {
		return publication{}, api.ErrRange
	}
	return publication{Table: t}.with(hidden), api.OK
}

// readRequests reads a table with its hidden cells and requests; its error is theirs.
func readRequests(t Table, hidden []Cell, requests []Request) (publication, api.Errno) {
	p, e := read(t, hidden)
	isRequest := func(r Request) bool { return isSize(r.Below) && isSize(r.Above) && p.has(r.Cell) }
	switch {
	case e != api.OK:
		return publication{}, e
	case len(requests) > api.MaxHideRequests:
		return publication{}, api.ErrLimit
	case !every(requests, isRequest):
		return publication{}, api.ErrRange
	}
	return p, api.OK
}

// with returns the publication with further hidden cells.
func (p publication) with(further []Cell) publication {
	for _, c := range further {
		p.hidden[c.Row][c.Column] = true
	}
	return p
}

func (p publication) hides(c Cell) bool { return p.hidden[c.Row][c.Column] }

func (p publication) shows(c Cell) bool { return !p.hides(c) }

func (t Table) value(c Cell) int { return t.Rows[c.Row][c.Column] }

// cells yields the cells that are as asked, in their order.
func (t Table) cells(asked func(Cell) bool) iter.Seq[Cell] {
	return func(yield func(Cell) bool) {
		for row := range len(t.Rows) {
			for column := range t.columns() {
				if c := (Cell{row, column}); asked(c) && !yield(c) {
					return
				}
			}
		}
	}
}

// sums returns the sums of all rows and columns.
func (t Table) sums() map[line]int {
	sums := map[line]int{}
	for c := range t.cells(t.has) {
		sums[c.row()] += t.value(c)
		sums[c.column()] += t.value(c)
	}
	return sums
}

// ownRows returns the rows in memory of their own.
func (t Table) ownRows() [][]int {
	var rows [][]int
	for _, row := range t.Rows {
		rows = append(rows, slices.Clone(row))
	}
	return rows
}

// allows reports whether the rows are those of a candidate. Tables that have the same sums have as many rows and columns.
func (p publication) allows(rows [][]int) bool {
	other := Table{rows, p.Cap}
	if CheckTable(other) != api.OK || !maps.Equal(other.sums(), p.sums()) {
		return false
	}
	agrees := func(c Cell) bool { return other.value(c) == p.value(c) }
	return every(slices.Collect(p.cells(p.shows)), agrees)
}

// ranges returns the ranges of all cells, row by row.
func (p publication) ranges() [][]Range {
	rows := make([][]Range, len(p.Rows))
	for c := range p.cells(p.has) {
		rows[c.Row] = append(rows[c.Row], Range{p.end(c, down(), up()), p.end(c, up(), down())})
	}
	return rows
}
