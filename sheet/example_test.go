package sheet_test

import (
	"fmt"

	"tithing/sheet"
)

// The census of the chapter's examples: with three persons in all the entry 1 is doubled.
func ExamplePersons() {
	c := sheet.Census{
		Entries: []sheet.Entry{
			{Schedule: 0, Sex: 0, Key: 5, Ages: sheet.Range{Lo: 30, Hi: 34}},
			{Schedule: 1, Sex: 0, Key: 5, Ages: sheet.Range{Lo: 33, Hi: 36}},
			{Schedule: 2, Sex: 0, Key: 5, Ages: sheet.Range{Lo: 35, Hi: 40}},
			{Schedule: 1, Sex: 1, Key: 7, Ages: sheet.Range{Lo: 20, Hi: 20}},
		},
		Omitted: sheet.Range{Lo: 0, Hi: 1},
	}
	for _, c.Number = range []sheet.Range{{Lo: 3, Hi: 3}, {Lo: 3, Hi: 5}} {
		persons, omitted, _ := sheet.Persons(c)
		doubled, _ := sheet.Doubled(c)
		fmt.Println(persons, omitted, doubled)
	}
	// Output:
	// {3 3} {0 0} [1]
	// {3 4} {0 1} []
}

// The coding of the chapter's examples.
func ExampleCodes() {
	c := sheet.Coding{Codes: [][]int{{1, 2, 3}, {1, 5, 3}, {4, 5, 3}}, Wrong: []int{1, 1, 1}}
	codes, _ := sheet.Codes(c)
	errors, _ := sheet.Errors(c)
	fmt.Println(codes, errors)
	// Output: [[1] [5] [3]] 2
}
