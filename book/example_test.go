package book_test

import (
	"fmt"

	"tithing/book"
)

// The session of the chapter's examples.
func Example() {
	session := []string{
		"entry 0 0 5 30 34", "entry 1 0 5 33 36", "entry 2 0 5 35 40", "entry 1 1 7 20 20",
		"number 3 4", "same 0 1", "hide 0 0", "ask 0 0 1 0", "publish", "rule 2 4 0",
	}
	report, _ := book.Report(session)
	fmt.Print(report)
	// Output:
	// entries 4 persons 3..3 omitted 0..0
	// table 1 1 1 0 1 0
	// ranges 0..1 1..2 1..1 0..1 0..1 0..0
	// seats 1 2 1
	// exposed none
}

// A line that would make the census inconsistent is refused, and changes nothing.
func ExamplePlay() {
	state, errors, _ := book.Play([]string{"entry 0 0 5 30 34", "number 1 1", "entry 1 1 5 30 34", "entry 2 0 5 33 36"})
	fmt.Println(len(state.Entries), errors)
	// Output: 2 [row 0 row 0 row 9 row 0]
}

// A file that is cut off is read up to where it is complete, and resumed with the lines after it.
func ExampleResume() {
	file, _ := book.Write([]string{"entry 0 0 5 30 34", "number 1 1"})
	lines, bytes := book.Recover(file[:40])
	again, _ := book.Resume(file[:40], []string{"number 0 0", "number 1 1"})
	fmt.Println(lines, bytes, string(again) == string(file))
	// Output: [entry 0 0 5 30 34] 29 true
}
