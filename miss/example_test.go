package miss_test

import (
	"fmt"

	"tithing/miss"
)

// The area of the chapter's examples: 3 of 4 sampled persons are among 10 listed ones, and at most 5 were missed.
func Example() {
	a := miss.Area{Listed: 10, Most: 5, Sample: 4, Found: 3}
	chance, _ := miss.Chance(a, 1)
	tail, _ := miss.Tail(a, 2, true)
	likely, _ := miss.Likely(a)
	low, _ := miss.Missed(a, miss.Fraction{Num: 1, Den: 10})
	high, _ := miss.Missed(a, miss.Fraction{Num: 2, Den: 5})
	fmt.Println(chance, tail, likely, low, high)
	// Output: {4 11} {19 33} [3] {1 5} {2 5}
}

// The samples of the chapter's examples.
func ExampleDraw() {
	enough, _ := miss.Enough(10, 5, 2, miss.Fraction{Num: 1, Den: 2})
	sample, _ := miss.Draw(5, []int{7, 0, 2})
	fmt.Println(enough, sample)
	// Output: 4 [0 2 4]
}
