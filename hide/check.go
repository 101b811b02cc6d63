package hide

import "tithing/api"

// every reports whether all elements of the list are as asked.
func every[T any](list []T, asked func(T) bool) bool {
	for _, x := range list {
		if !asked(x) {
			return false
		}
	}
	return true
}

// least returns the smallest of numbers.
func least(first int, others ...int) int {
	for _, n := range others {
		first = min(first, n)
	}
	return first
}

// rises reports whether the cells are in increasing order.
func rises(list []Cell) bool {
	for i := 1; i < len(list); i++ {
		if !list[i-1].before(list[i]) {
			return false
		}
	}
	return true
}

func (c Cell) before(other Cell) bool {
	return c.Row < other.Row || c.Row == other.Row && c.Column < other.Column
}

// columns returns how many columns the table has, by its first row.
func (t Table) columns() int {
	if len(t.Rows) == 0 {
		return 0
	}
	return len(t.Rows[0])
}

func (t Table) fits() bool {
	return len(t.Rows) <= api.MaxHideRows && every(t.Rows, func(row []int) bool { return len(row) <= api.MaxHideColumns })
}

func (t Table) valid() bool {
	isValue := func(n int) bool { return 0 <= n && n <= t.Cap }
	isRow := func(row []int) bool { return len(row) == t.columns() && every(row, isValue) }
	return t.columns() > 0 && isSize(t.Cap) && every(t.Rows, isRow)
}

// isSize reports whether the number can be the greatest value of cells, and so the distance of two values.
func isSize(n int) bool { return 0 <= n && n <= api.MaxHideCap }

// has reports whether the cell is one of the table.
func (t Table) has(c Cell) bool {
	return 0 <= c.Row && c.Row < len(t.Rows) && 0 <= c.Column && c.Column < t.columns()
}
