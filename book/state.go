package book

import (
	"tithing/api"
	"tithing/hide"
	"tithing/seat"
	"tithing/sheet"
)

// The size of the table, and the greatest value of its cells.
const (
	sexes     = 2
	districts = 3
	tableCap  = 50
)

// begun returns the state before all lines.
func begun() State {
	return State{
		Number: sheet.Range{Lo: 0, Hi: api.MaxSheetNumber},
		Rule:   seat.Rule{Method: seat.Hondt, Seats: 5},
	}
}

func owned[T any](list []T) []T { return append([]T(nil), list...) }

// own returns the state in memory of its own.
func (s State) own() State {
	s.Entries = owned(s.Entries)
	s.Same, s.Apart = owned(s.Same), owned(s.Apart)
	s.Hidden, s.Requests = owned(s.Hidden), owned(s.Requests)
	return s
}

func (s State) census() sheet.Census {
	return sheet.Census{Entries: s.Entries, Same: s.Same, Apart: s.Apart, Omitted: s.Omitted, Number: s.Number}
}

func districtOf(one sheet.Entry) int { return one.Schedule % districts }

// table returns how many entries each sex has in each district.
func (s State) table() hide.Table {
	t := hide.Table{Cap: tableCap}
	for range sexes {
		t.Rows = append(t.Rows, make([]int, districts))
	}
	for _, one := range s.Entries {
		t.Rows[one.Sex][districtOf(one)]++
	}
	return t
}

// counts returns how many entries each district has.
func (s State) counts() []int {
	counts := make([]int, districts)
	for _, one := range s.Entries {
		counts[districtOf(one)]++
	}
	return counts
}

func (s State) isEntry(n int) bool { return 0 <= n && n < len(s.Entries) }

// isCell reports whether the cell is one of the table.
func isCell(c hide.Cell) bool {
	return 0 <= c.Row && c.Row < sexes && 0 <= c.Column && c.Column < districts
}
