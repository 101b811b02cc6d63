package seat

import "tithing/api"

// every reports whether all elements of the list are as asked.
func every[T any](list []T, asked func(T) bool) bool {
	for _, x := range list {
		if !asked(x) {
			return false
		}
	}
	return true
}

// sum returns the sum of the numbers.
func sum(numbers ...int) int {
	total := 0
	for _, n := range numbers {
		total += n
	}
	return total
}

func (r Range) has(n int) bool { return r.Lo <= n && n <= r.Hi }

func (r Range) valid() bool { return r.Lo <= r.Hi && allCounts().has(r.Lo) && allCounts().has(r.Hi) }

// allCounts are the numbers that a count can be.
func allCounts() Range { return Range{0, api.MaxSeatCount} }

// allSeats are the numbers of seats that a party can have.
func (r Rule) allSeats() Range { return Range{0, r.Seats} }

func (r Rule) valid() bool {
	return Adams <= r.Method && r.Method <= Remainder &&
		0 <= r.Seats && r.Seats <= api.MaxSeatSeats && allCounts().has(r.Least)
}

// admits reports whether a party with this count is admitted.
func (r Rule) admits(count int) bool { return count >= max(1, r.Least) }

// check returns the first error of the rule and of the counts, or of their ranges.
func check[T any](r Rule, counts []T, isValid func(T) bool) api.Errno {
	switch {
	case !r.valid():
		return api.ErrArg
	case len(counts) > api.MaxSeatParties:
		return api.ErrLimit
	case !every(counts, isValid):
		return api.ErrRange
	}
	return api.OK
}

func checkCounts(r Rule, counts []int) api.Errno { return check(r, counts, allCounts().has) }
