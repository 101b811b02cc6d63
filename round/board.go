package round

import (
	"iter"
	"slices"

	"tithing/api"
)

// side is one of the two on which a number has a neighbour.
type side struct {
	neighbour func(t Table, n int) int
}

func sides() []side { return []side{{Table.below}, {Table.above}} }

// below returns the neighbour that is not greater.
func (t Table) below(n int) int { return n - n%t.Base }

// above returns the neighbour that is not smaller.
func (t Table) above(n int) int { return t.below(n + t.Base - 1) }

// sums are what the columns have got.
type sums [api.MaxRoundColumns]int

func (s sums) plus(row []int) sums {
	for column, n := range row {
		s[column] += n
	}
	return s
}

// board is a table at work.
type board struct {
	Table
	sides []side
	due   sums // what the columns add up to, before they are rounded
}

// work returns the board of a valid table.
func work(t Table) board {
	b := board{Table: t, sides: sides()}
	for _, row := range t.Cells {
		b.due = b.due.plus(row)
	}
	return b
}

// neighbours returns the neighbours of the number, the smaller one first.
func (b board) neighbours(n int) []int {
	var list []int
	for _, s := range b.sides {
		list = append(list, s.neighbour(b.Table, n))
	}
	return slices.Compact(list)
}

// rounds reports whether the first number is a neighbour of the other one.
func (b board) rounds(rounded, n int) bool { return slices.Contains(b.neighbours(n), rounded) }

// choices yields what the row can become, the smaller one at the first cell at which two differ before the other. Each is in memory of its own.
func (b board) choices(row int) iter.Seq[[]int] {
	return func(yield func([]int) bool) {
		var choose func(numbers []int) bool
		choose = func(numbers []int) bool {
			column := len(numbers)
			if column == b.columns() {
				return !b.allows(row, numbers) || yield(slices.Clone(numbers))
			}
			for _, n := range b.neighbours(b.Cells[row][column]) {
				if !choose(append(numbers, n)) {
					return false
				}
			}
			return true
		}
		choose(nil)
	}
}

// allows reports whether the row can become these numbers, if each is a neighbour of its cell.
func (b board) allows(row int, numbers []int) bool {
	return b.rounds(sum(numbers), sum(b.Cells[row])) && b.keepsFixes(row, numbers)
}

func (t Table) keepsFixes(row int, numbers []int) bool {
	keeps := true
search:
	for column, n := range numbers {
		for _, f := range t.Fixes {
			if f.Row == row && f.Column == column && f.Value != n {
				keeps = false
				break search
			}
		}
	}
	return keeps
}

// allowsSums reports whether the columns, and all of them together, can become these sums.
func (b board) allowsSums(got sums) bool {
	for column, n := range got {
		if !b.rounds(n, b.due[column]) {
			return false
		}
	}
	return b.rounds(sum(got[:]), sum(b.due[:]))
}

// isRounding reports whether the numbers, as many as the table has cells, are a rounding.
func (b board) isRounding(numbers [][]int) bool {
	var got sums
	for row, list := range numbers {
		for column, n := range list {
			if !b.rounds(n, b.Cells[row][column]) {
				return false
			}
		}
		if !b.allows(row, list) {
			return false
		}
		got = got.plus(list)
	}
	return b.allowsSums(got)
}

// change returns by how much the numbers differ from all cells.
func (t Table) change(numbers [][]int) int {
	all := 0
	for row, list := range numbers {
		all += distance(t.Cells[row], list)
	}
	return all
}

func distance(a, b []int) int {
	all := 0
	for i, n := range a {
		all += max(n-b[i], b[i]-n)
	}
	return all
}
