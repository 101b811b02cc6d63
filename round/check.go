package round

import "tithing/api"

// every reports whether all elements of the list are as asked.
func every[T any](list []T, asked func(T) bool) bool {
	for _, x := range list {
		if !asked(x) {
			return false
		}
	}
	return true
}

// least returns the smallest of numbers.
func least(first int, others ...int) int {
	for _, n := range others {
		first = min(first, n)
	}
	return first
}

func sum(list []int) int {
	total := 0
	for _, n := range list {
		total += n
	}
	return total
}

func (r Range) has(n int) bool { return r.Lo <= n && n <= r.Hi }

func bases() Range { return Range{2, api.MaxRoundBase} }

func counts() Range { return Range{0, api.MaxRoundCell} }

func totals() Range { return Range{0, api.MaxRoundTotal} }

// published are the numbers that can be published instead of counts.
func published() Range { return Range{0, api.MaxRoundCell + api.MaxRoundBase} }

// columns returns how many columns the table has, by its first row.
func (t Table) columns() int {
	if len(t.Cells) == 0 {
		return 0
	}
	return len(t.Cells[0])
}

func (t Table) fits() bool {
	return len(t.Cells) <= api.MaxRoundRows && len(t.Fixes) <= api.MaxRoundFixes &&
		every(t.Cells, func(row []int) bool { return len(row) <= api.MaxRoundColumns })
}

func (t Table) valid() bool {
	return bases().has(t.Base) && t.columns() > 0 && every(t.Cells, t.rowsOf(counts())) && every(t.Fixes, t.canFix)
}

// rowsOf tells which lists are as long as the rows of the table and have only such numbers.
func (t Table) rowsOf(numbers Range) func(row []int) bool {
	isNumber := numbers.has
	return func(row []int) bool { return len(row) == t.columns() && every(row, isNumber) }
}

// canFix reports whether the fix is of a cell, and to a number that can be published.
func (t Table) canFix(f Fix) bool {
	return 0 <= f.Row && f.Row < len(t.Cells) && 0 <= f.Column && f.Column < t.columns() && published().has(f.Value)
}

// canChangeTo reports whether the numbers have the rows and columns of the table, and can be published.
func (t Table) canChangeTo(numbers [][]int) bool {
	return len(numbers) == len(t.Cells) && every(numbers, t.rowsOf(published()))
}
