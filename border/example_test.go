package border_test

import (
	"fmt"

	"tithing/border"
)

// The map of the chapter's examples.
func Example() {
	m := border.Map{
		Old: []int{100, 60},
		New: 2,
		Streets: []border.Street{
			{Old: 0, New: 0, Weight: 3, People: border.Range{Lo: 40, Hi: 70}},
			{Old: 0, New: 1, Weight: 2, People: border.Range{Lo: 30, Hi: 50}},
			{Old: 1, New: 1, Weight: 5, People: border.Range{Lo: 20, Hi: 60}},
			{Old: 1, New: 0, Weight: 1, People: border.Range{Lo: 0, Hi: 30}},
		},
		Joins: []border.Join{{A: 0, B: 1}, {A: 1, B: 2}, {A: 2, B: 3}},
	}
	streets, districts, _ := border.Carry(m)
	fmt.Println(streets, districts)
	people, _ := border.Streets(m)
	sizes, _ := border.Bounds(m)
	off, _ := border.Off(m)
	fmt.Println(people, sizes, off)
	apart, _ := border.Apart(m)
	limits := border.Range{Lo: 30, Hi: 130}
	borders, moved, _ := border.Best(m, limits)
	fmt.Println(apart, borders, moved, border.ProveBorders(m, borders, limits, moved))
	_, _, e := border.Best(m, border.Range{Lo: 100, Hi: 100})
	fmt.Println(e)
	// Output:
	// [60 40 50 10] [70 90]
	// [{50 70} {30 50} {30 60} {0 30}] [{50 100} {60 110}] [30 30]
	// [0] [0 1 1 1] 1 true
	// row 7
}

// Numbers that can be so, and some that cannot.
func ExampleProveTruth() {
	m := border.Map{
		Old: []int{100}, New: 1,
		Streets: []border.Street{
			{Weight: 3, People: border.Range{Lo: 40, Hi: 70}},
			{Weight: 2, People: border.Range{Lo: 30, Hi: 50}},
		},
	}
	fmt.Println(border.ProveTruth(m, []int{60, 40}), border.ProveTruth(m, []int{75, 25}), border.ProveTruth(m, []int{60, 41}))
	// Output: true false false
}
