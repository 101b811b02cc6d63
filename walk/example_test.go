package walk_test

import (
	"fmt"

	"tithing/walk"
)

// The map of the chapter's examples, and its smallest limits.
func ExampleLeast() {
	m := walk.Map{
		Work:  []walk.Range{{Lo: 2, Hi: 3}, {Lo: 4, Hi: 5}, {Lo: 3, Hi: 3}, {Lo: 6, Hi: 8}},
		Roads: []walk.Road{{A: 0, B: 1, Time: walk.Range{Lo: 2, Hi: 3}}, {A: 1, B: 2, Time: walk.Range{Lo: 1, Hi: 2}}, {A: 0, B: 3, Time: walk.Range{Lo: 4, Hi: 4}}, {A: 2, B: 3, Time: walk.Range{Lo: 5, Hi: 6}}},
	}
	for many := 1; many <= 3; many++ {
		limit, _ := walk.Least(m, many)
		fmt.Println(many, limit)
	}
	// Output:
	// 1 34
	// 2 19
	// 3 16
}
