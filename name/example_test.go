package name_test

import (
	"fmt"

	"tithing/name"
)

// The rules and the list of the chapter's examples.
func Example() {
	r := name.Rules{Classes: []string{"BP", "DT", "CKQ"}, Soft: "AEIOUY", Alike: 1, Other: 4, Skip: 3, SoftSkip: 1, Double: 1}
	list := []string{"KATE", "CADE", "MARY", "KATY"}
	cost, _ := name.Cost(r, "KATE", "CADE")
	key, _ := name.Key(r, "KATE")
	near, _ := name.Near(r, list, "KATE", 2)
	groups, _ := name.Groups(r, list, 2)
	bridge, _ := name.Bridge(r, list)
	index, total, _ := name.Center(r, list)
	fmt.Println(cost, key, near, groups, bridge, index, total)
	// Output: 2 CD [0 1 3] [[0 1 3] [2]] 8 0 14
}
