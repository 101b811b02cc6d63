package round_test

import (
	"fmt"

	"tithing/round"
)

// The table of the chapter's examples: its best rounding, and what is so in all of them.
func Example() {
	t := example()
	numbers, change, _ := round.Best(t)
	ways, _ := round.Ways(t)
	span, _ := round.Span(t)
	fmt.Println(numbers, change, ways, span, round.ProveRounding(t, numbers, change))
	t.Fixes = []round.Fix{{Row: 1, Column: 0, Value: 15}}
	ways, _ = round.Ways(t)
	_, _, e := round.Best(t)
	fmt.Println(ways, e)
	// Output:
	// [[5 5] [5 0]] 6 4 [[{0 5} {0 5}] [{5 10} {0 5}]] true
	// 0 row 9
}

// What a reader can conclude about a cell.
func ExampleLearn() {
	counts, _ := round.Learn(5, 10)
	fmt.Println(counts)
	// Output: {6 14}
}

// A total that is divided by weights.
func ExampleDivide() {
	equal, _ := round.Divide([]int{1, 1, 1}, 5)
	parts, _ := round.Divide([]int{3, 2, 2}, 10)
	fmt.Println(equal, parts)
	// Output: [2 2 1] [4 3 3]
}
