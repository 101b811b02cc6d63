package age

import (
	"cmp"
	"slices"

	"tithing/api"
)

func smallest(first int, more ...int) int {
	for _, n := range more {
		if n < first {
			first = n
		}
	}
	return first
}

func greatest(first int, more ...int) int {
	for _, n := range more {
		if n > first {
			first = n
		}
	}
	return first
}

// anyAge has all true ages.
func anyAge() Range { return Range{0, api.MaxAgeAge} }

func anyDay() Range { return Range{-api.MaxAgeDay, api.MaxAgeDay} }

func (r Range) has(n int) bool { return r.Lo <= n && n <= r.Hi }

// within reports whether the range is one, and the other one has all of it.
func (r Range) within(other Range) bool {
	return other.Lo <= r.Lo && r.Lo <= r.Hi && r.Hi <= other.Hi
}

// joined returns the numbers of all ranges as ranges that rise, with a gap between any two.
func joined(list []Range) []Range {
	rising := slices.Clone(list)
	slices.SortFunc(rising, func(a, b Range) int { return cmp.Compare(a.Lo, b.Lo) })
	var out []Range
	for _, r := range rising {
		last := len(out) - 1
		if last >= 0 && r.Lo <= out[last].Hi+1 {
			out[last].Hi = greatest(out[last].Hi, r.Hi)
		} else {
			out = append(out, r)
		}
	}
	return out
}

// common returns the numbers that both lists have. As the ranges of each list rise, with gaps between them, those of the result do, too.
func common(list, other []Range) []Range {
	var out []Range
	for _, a := range list {
		for _, b := range other {
			both := Range{greatest(a.Lo, b.Lo), smallest(a.Hi, b.Hi)}
			if both.Lo <= both.Hi {
				out = append(out, both)
			}
		}
	}
	return out
}
