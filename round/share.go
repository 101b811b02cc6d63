package round

import "slices"

// divided divides the total by weights of which one is not 0.
func divided(weights []int, total int) []int {
	all, left := sum(weights), total
	var parts, gaps []int
	for _, w := range weights {
		part := total * w / all
		left -= part
		parts = append(parts, part)
		// The more a share was rounded down, the less it lacks to the next number; this is counted in parts of the sum of weights, so that it is whole.
		gaps = append(gaps, (part+1)*all-total*w)
	}
	for range left {
		i := slices.Index(gaps, least(gaps[0], gaps[1:]...))
		parts[i]++
		gaps[i] += all
	}
	return parts
}
