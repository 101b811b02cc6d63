package hide_test

import (
	"fmt"

	"tithing/hide"
)

// The table of the chapter's examples, with four hidden cells.
func Example() {
	t := example()
	hidden := []hide.Cell{{Row: 0, Column: 0}, {Row: 0, Column: 1}, {Row: 1, Column: 0}, {Row: 1, Column: 1}}
	ranges, _ := hide.Ranges(t, hidden)
	rows, _ := hide.Show(t, hidden, hide.Cell{Row: 0, Column: 0}, true)
	fmt.Println(ranges[:2], rows, hide.ProveCandidate(t, hidden, rows))
	// Output: [[{0 6} {0 6} {3 3}] [{1 7} {3 9} {4 4}]] [[6 0 3] [1 9 4] [6 0 7]] true
}

// The further cells that have to be hidden with a cell, so that nobody knows it but for a range.
func ExampleHide() {
	first := hide.Cell{Row: 0, Column: 0}
	weak, _ := hide.Hide(example(), []hide.Cell{first}, []hide.Request{{Cell: first, Below: 1, Above: 1}})
	strong, _ := hide.Hide(example(), []hide.Cell{first}, []hide.Request{{Cell: first, Below: 3, Above: 2}})
	_, e := hide.Hide(example(), nil, []hide.Request{{Cell: first, Below: 6}})
	fmt.Println(weak, strong, e)
	// Output: [{0 0} {0 1} {1 0} {1 1}] [{0 0} {0 2} {1 0} {1 2}] row 11
}
