package link_test

import (
	"fmt"

	"tithing/link"
)

// The file of the chapter's examples, and what it costs to insist on a pair.
func Example() {
	f := example()
	pairs, _ := link.Pairs(f)
	most, _ := link.Most(f)
	only, _ := link.Only(f)
	sure, _ := link.Sure(f)
	cost, _ := link.Cost(f, 0, 2)
	_, tie := link.Only(towns(700, move(1, 2), move(1, 3)))
	fmt.Println(pairs, most, only, sure, cost, tie)
	// Output: [{0 0} {0 2} {1 1} {2 2}] 3 [0 1 2] [{0 0} {1 1} {2 2}] 1 row 10
}
