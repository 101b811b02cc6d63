package flow_test

import (
	"fmt"

	"tithing/flow"
)

// The table of the chapter's examples.
func Example() {
	t := example()
	bounds, _ := flow.Bounds(t)
	would, _ := flow.Would(t, flow.Cell{Census: 1, Group: 2})
	further, _ := flow.Project(t, flow.Range{Lo: 0, Hi: 50})
	fmt.Println(bounds[1], would, further)
	// Output: [{88 102} {91 97} {100 115}] {99 121} [{0 43} {79 105} {145 174}]
}

// The table of the chapter's examples, with a count that is too low.
func ExampleLeave() {
	t := example()
	t.Counted[1][0] = flow.Range{Lo: 60, Hi: 70}
	left, _ := flow.Leave(t)
	failed, _ := flow.Fail([]flow.Table{example(), t})
	fmt.Println(left, failed)
	// Output: [{1 0}] [1]
}
