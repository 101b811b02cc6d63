package seat

// quotient tells in lowest terms how strong a claim to a seat is. Those with the divisor 0 are the strongest, and stay apart by their counts.
type quotient struct{ count, divisor int }

// lowest returns the quotient in lowest terms.
func lowest(count, divisor int) quotient {
	if divisor == 0 {
		return quotient{count, 0}
	}
	a, b := count, divisor
	for b != 0 {
		a, b = b, a%b
	}
	return quotient{count / a, divisor / a}
}

// below reports whether the other quotient is greater.
func (q quotient) below(other quotient) bool {
	if q.divisor == 0 && other.divisor == 0 {
		return q.count < other.count
	}
	return q.count*other.divisor < other.count*q.divisor
}

func lesser(a, b quotient) quotient {
	if a.below(b) {
		return a
	}
	return b
}

func greater(a, b quotient) quotient {
	if a.below(b) {
		return b
	}
	return a
}

func square(n int) int { return n * n }

// divisors returns for each method of divisors how the divisor of a party follows from its seats. All divisors are squared, as those of Hill are square roots.
func divisors() map[uint8]func(seats int) int {
	return map[uint8]func(seats int) int{
		Adams:  func(s int) int { return square(s) },
		Hondt:  func(s int) int { return square(s + 1) },
		Sainte: func(s int) int { return square(2*s + 1) },
		Hill:   func(s int) int { return s * (s + 1) },
	}
}
