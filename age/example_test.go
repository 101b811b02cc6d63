package age_test

import (
	"fmt"

	"tithing/age"
)

// The person of the chapter's examples: an age of about 25, one of 30, and one that does not fit.
func ExampleBirths() {
	p := age.Person{
		Born: age.Range{Lo: 0, Hi: 20000},
		Rules: []age.Rule{
			{From: 0, Base: 1, Mode: age.Down, Error: 0},
			{From: 20, Base: 5, Mode: age.Near, Error: 1},
		},
		Records: []age.Record{{Day: 10000, Rule: 1, Written: 25}, {Day: 12000, Rule: 0, Written: 30}},
	}
	births, _ := age.Births(p)
	ages, _ := age.On(p, 10950)
	fmt.Println(births, ages)
	p.Records = append(p.Records, age.Record{Day: 12000, Rule: 0, Written: 40})
	_, e := age.Births(p)
	left, _ := age.Leave(p)
	fmt.Println(e, left)
	// Output:
	// [{686 1050}] [{27 28}]
	// row 9 [2]
}

// The written numbers of the chapter's examples.
func ExampleCount() {
	written := []int{20, 25, 30}
	persons, _ := age.Count(age.Rule{From: 20, Base: 5, Mode: age.Near, Error: 1}, written, age.Range{Lo: 20, Hi: 25})
	heaping, _ := age.Heaping([]int{20, 25, 31, 40}, 5)
	fmt.Println(persons, heaping)
	// Output: {0 2} 3750
}
