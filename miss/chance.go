package miss

import (
	"cmp"
	"iter"
	"math/bits"

	"tithing/api"
)

// choice is the choice of k of n things.
type choice struct{ n, k int }

// spread has the chances of all numbers of found persons, for one number of missed persons: so many of all samples have so many persons who are on the lists.
type spread struct {
	Area
	samples [api.MaxMissPersons + 1]int
	all     int
}

// tail is one side of a spread, from Found on.
type tail struct {
	samples func(s *spread) int
}

// numbers yields the numbers of the range, in increasing order.
func (r Range) numbers() iter.Seq[int] {
	return func(yield func(int) bool) {
		for n := r.Lo; n <= r.Hi; n++ {
			if !yield(n) {
				return
			}
		}
	}
}

func sum(numbers ...int) int {
	total := 0
	for _, n := range numbers {
		total += n
	}
	return total
}

// counter returns a function that returns the number of ways to choose k of n things. It only adds, as the products of the factorials need not fit into an int.
func counter() func(n, k int) int {
	known := map[choice]int{}
	var ways func(n, k int) int
	ways = func(n, k int) int {
		if k > n {
			return 0
		}
		if k == 0 || k == n {
			return 1
		}
		many, ok := known[choice{n, k}]
		if !ok {
			many = ways(n-1, k) + ways(n-1, k-1)
			known[choice{n, k}] = many
		}
		return many
	}
	return ways
}

func commonDivisor(a, b int) int {
	for b > 0 {
		a, b = b, a%b
	}
	return a
}

// fraction returns the part of all, which is at least 1, in lowest terms.
func fraction(part, all int) Fraction {
	common := commonDivisor(part, all)
	return Fraction{part / common, all / common}
}

// compare is below 0 if the fraction is less than the other one, and above 0 if it is greater. The products have 128 bits, as those of two chances need not fit into an int.
func (f Fraction) compare(other Fraction) int {
	high, low := bits.Mul64(uint64(f.Num), uint64(other.Den))
	otherHigh, otherLow := bits.Mul64(uint64(other.Num), uint64(f.Den))
	return cmp.Or(cmp.Compare(high, otherHigh), cmp.Compare(low, otherLow))
}

func (s *spread) atMost() int { return sum(s.samples[:s.Found+1]...) }

func (s *spread) atLeast() int { return sum(s.samples[s.Found : s.Sample+1]...) }

func lower() tail { return tail{(*spread).atMost} }

func upper() tail { return tail{(*spread).atLeast} }

// of returns the chance that the tail of the spread has.
func (t tail) of(s *spread) Fraction { return fraction(t.samples(s), s.all) }
