package seat_test

import (
	"fmt"

	"tithing/seat"
)

// The counts of the chapter's examples, by all methods.
func Example() {
	counts := []int{53, 24, 23}
	for _, method := range []uint8{seat.Adams, seat.Hondt, seat.Sainte, seat.Hill, seat.Remainder} {
		r := seat.Rule{Method: method, Seats: 7}
		seats, _ := seat.Seats(r, counts)
		fmt.Println(seats, seat.ProveSeats(r, counts, seats))
	}
	_, e := seat.Seats(seat.Rule{Method: seat.Hondt, Seats: 2}, []int{10, 5})
	fmt.Println(e)
	// Output:
	// [3 2 2] true
	// [4 2 1] true
	// [3 2 2] true
	// [3 2 2] true
	// [4 2 1] true
	// row 10
}

// Counts that are only known as ranges.
func ExampleBounds() {
	r := seat.Rule{Method: seat.Hondt, Seats: 7}
	bounds, _ := seat.Bounds(r, []seat.Range{{Lo: 52, Hi: 54}, {Lo: 24, Hi: 24}, {Lo: 22, Hi: 24}})
	fmt.Println(bounds)
	// Output: [{4 4} {1 2} {1 2}]
}

// How little would move a seat, who would get the next one, and how a seat more can be one less.
func ExampleShift() {
	r := seat.Rule{Method: seat.Hondt, Seats: 7}
	party, change, _ := seat.Shift(r, []int{53, 24, 23})
	next, _ := seat.Next(r, []int{53, 24, 23})
	lost, _ := seat.Lost(seat.Rule{Method: seat.Remainder, Seats: 10}, []int{6, 6, 2})
	fmt.Println(party, change, next, lost)
	// Output: 1 -1 2 2
}
