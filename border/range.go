package border

// end is one of the two ends of ranges.
type end struct {
	of func(r Range) int
}

func ends() []end { return []end{{Range.low}, {Range.high}} }

func (r Range) low() int { return r.Lo }

func (r Range) high() int { return r.Hi }

// least returns the smallest of numbers.
func least(first int, others ...int) int {
	for _, n := range others {
		first = min(first, n)
	}
	return first
}

func (r Range) has(n int) bool { return r.Lo <= n && n <= r.Hi }

// within reports whether it is a range, and both its ends are in the other one.
func (r Range) within(outer Range) bool {
	return r.Lo <= r.Hi && every(ends(), func(e end) bool { return outer.has(e.of(r)) })
}

// plus returns the range of the sums of a number of each of both.
func (r Range) plus(other Range) Range { return Range{r.Lo + other.Lo, r.Hi + other.Hi} }

// farthest returns by how much a number of the range can differ from this one.
func (r Range) farthest(n int) int {
	far := 0
	for _, e := range ends() {
		far = max(far, e.of(r)-n, n-e.of(r))
	}
	return far
}
