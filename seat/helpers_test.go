package seat_test

import (
	"slices"
	"testing"

	"tithing/api"
	"tithing/seat"
)

func rule(method uint8, seats, least int) seat.Rule {
	return seat.Rule{Method: method, Seats: seats, Least: least}
}

func to(low, high int) seat.Range { return seat.Range{Lo: low, Hi: high} }

func ranges(l ...seat.Range) []seat.Range { return l }

func list(l ...int) []int { return l }

// three are the counts of the chapter's examples.
func three() []int { return list(53, 24, 23) }

func methods() []uint8 {
	return []uint8{seat.Adams, seat.Hondt, seat.Sainte, seat.Hill, seat.Remainder}
}

func sumOf(l []int) int {
	sum := 0
	for _, n := range l {
		sum += n
	}
	return sum
}

// points returns ranges that have just the counts.
func points(counts []int) []seat.Range {
	var l []seat.Range
	for _, n := range counts {
		l = append(l, to(n, n))
	}
	return l
}

func isAdmitted(r seat.Rule, n int) bool { return n >= 1 && n >= r.Least }

// votesOf returns the sum of the counts of all admitted parties.
func votesOf(r seat.Rule, counts []int) int {
	sum := 0
	for _, n := range counts {
		if isAdmitted(r, n) {
			sum += n
		}
	}
	return sum
}

// claim is what a party has: its count, and its seats so far.
type claim struct{ count, seats int }

// order tells which of two quotients is greater, by the chapter's table: it is above 0 if the first one is.
func order(method uint8, a, b claim) int {
	if method == seat.Hill {
		return orderOfParts(a.count*a.count, a.seats*(a.seats+1), b.count*b.count, b.seats*(b.seats+1), a.count-b.count)
	}
	divisor := func(s int) int {
		switch method {
		case seat.Adams:
			return s
		case seat.Hondt:
			return s + 1
		}
		return 2*s + 1
	}
	return orderOfParts(a.count, divisor(a.seats), b.count, divisor(b.seats), a.count-b.count)
}

// orderOfParts compares two fractions; of two with the divisor 0 the counts tell.
func orderOfParts(a, b, c, d, byCount int) int {
	switch {
	case b == 0 && d == 0:
		return byCount
	case b == 0:
		return 1
	case d == 0:
		return -1
	}
	return a*d - c*b
}

// follow returns the lists that give one seat more than these, each one to any party that may be next.
func follow(lists [][]int, mayBeNext func(l []int, party int) bool) [][]int {
	var out [][]int
	for _, l := range lists {
		for party := range l {
			if mayBeNext(l, party) {
				more := slices.Clone(l)
				more[party]++
				out = append(out, more)
			}
		}
	}
	slices.SortFunc(out, slices.Compare)
	return slices.CompactFunc(out, slices.Equal)
}

// resultsOf finds all results by the chapter's definitions: seats are given one by one, and all that may be next are tried.
func resultsOf(r seat.Rule, counts []int) [][]int {
	lists := [][]int{make([]int, len(counts))}
	if votesOf(r, counts) == 0 {
		return lists
	}
	if r.Method == seat.Remainder {
		return remaindersOf(r, counts)
	}
	for range r.Seats {
		lists = follow(lists, func(l []int, party int) bool {
			for other, n := range counts {
				if isAdmitted(r, n) && order(r.Method, claim{n, l[other]}, claim{counts[party], l[party]}) > 0 {
					return false
				}
			}
			return isAdmitted(r, counts[party])
		})
	}
	return lists
}

func remaindersOf(r seat.Rule, counts []int) [][]int {
	votes := votesOf(r, counts)
	whole := make([]int, len(counts))
	rest := make([]int, len(counts))
	for party, n := range counts {
		if isAdmitted(r, n) {
			for rest[party] = n * r.Seats; rest[party] >= votes; rest[party] -= votes {
				whole[party]++
			}
		}
	}
	lists := [][]int{whole}
	for range r.Seats - sumOf(whole) {
		lists = follow(lists, func(l []int, party int) bool {
			for other, n := range counts {
				if isAdmitted(r, n) && l[other] == whole[other] && rest[other] > rest[party] {
					return false
				}
			}
			return isAdmitted(r, counts[party]) && l[party] == whole[party]
		})
	}
	return lists
}

// isResult reports whether the list is one of the results.
func isResult(results [][]int, l []int) bool {
	return slices.ContainsFunc(results, func(x []int) bool { return slices.Equal(x, l) })
}

// spanOf returns for each party the range of its seats in the results.
func spanOf(results [][]int) []seat.Range {
	span := points(results[0])
	for _, l := range results {
		for party, n := range l {
			span[party] = to(min(span[party].Lo, n), max(span[party].Hi, n))
		}
	}
	return span
}

// forLists calls do with all lists that take a number out of each range.
func forLists(l []seat.Range, do func(numbers []int)) {
	numbers := make([]int, len(l))
	var fill func(i int)
	fill = func(i int) {
		if i == len(l) {
			do(numbers)
			return
		}
		for n := l[i].Lo; n <= l[i].Hi; n++ {
			numbers[i] = n
			fill(i + 1)
		}
	}
	fill(0)
}

// boundsOf finds the bounds: all counts in the ranges are tried, with all their results.
func boundsOf(r seat.Rule, l []seat.Range) []seat.Range {
	var all []seat.Range
	forLists(l, func(counts []int) {
		span := spanOf(resultsOf(r, counts))
		if all == nil {
			all = span
		}
		all = joined(all, span)
	})
	return all
}

func joined(a, b []seat.Range) []seat.Range {
	var out []seat.Range
	for i, r := range a {
		out = append(out, to(min(r.Lo, b[i].Lo), max(r.Hi, b[i].Hi)))
	}
	return out
}

// plus returns the counts with the change of one of them.
func plus(counts []int, party, change int) []int {
	counts = slices.Clone(counts)
	counts[party] += change
	return counts
}

// movesSeat reports whether the change moves a seat away from the only result.
func movesSeat(r seat.Rule, counts []int, party, change int, only []int) bool {
	results := resultsOf(r, plus(counts, party, change))
	return len(results) > 1 || !slices.Equal(results[0], only)
}

// shiftOf finds the smallest change: all changes are tried.
func shiftOf(r seat.Rule, counts []int) (party, change int, e api.Errno) {
	results := resultsOf(r, counts)
	if len(results) > 1 {
		return 0, 0, api.ErrTie
	}
	for size := range 10000 {
		for party, n := range counts {
			for _, change := range list(size+1, -size-1) {
				if 0 <= n+change && n+change <= 10000 && movesSeat(r, counts, party, change, results[0]) {
					return party, change, api.OK
				}
			}
		}
	}
	return 0, 0, api.ErrFail
}

// moreOf finds who has more and who has fewer seats with one seat more; -1 is nobody.
func moreOf(r seat.Rule, counts []int) (next, lost int, e api.Errno) {
	before := resultsOf(r, counts)
	r.Seats++
	after := resultsOf(r, counts)
	if len(before) > 1 || len(after) > 1 {
		return -1, -1, api.ErrTie
	}
	next, lost = -1, -1
	for party, n := range before[0] {
		if more := after[0][party]; more > n && next < 0 {
			next = party
		} else if more < n && lost < 0 {
			lost = party
		}
	}
	return next, lost, api.OK
}

// dice are thrown in the same way in each run.
type dice uint64

func (d *dice) upTo(most int) int {
	*d = *d*6364136223846793005 + 1442695040888963407
	return int(uint64(*d)>>33) % (most + 1)
}

func (d *dice) from(low, high int) int { return low + d.upTo(high-low) }

// of returns one of the list.
func (d *dice) of(l ...int) int { return l[d.upTo(len(l)-1)] }

// order returns the numbers below most in another order.
func (d *dice) order(most int) []int {
	var l []int
	for n := range most {
		l = slices.Insert(l, d.upTo(n), n)
	}
	return l
}

func (d *dice) method() uint8 { return methods()[d.upTo(4)] }

// counts makes so many counts, often equal ones, multiples of each other, or none.
func (d *dice) counts(parties int) []int {
	most := d.of(3, 10, 30, 100, 1000, 10000)
	var l []int
	for range parties {
		n := d.upTo(most)
		if len(l) > 0 {
			switch d.upTo(7) {
			case 0:
				n = l[0]
			case 1:
				n = min(10000, l[d.upTo(len(l)-1)]*d.from(2, 5))
			case 2:
				n = l[d.upTo(len(l)-1)] / d.from(2, 3)
			}
		}
		l = append(l, n)
	}
	return l
}

// least makes a least count, often one that just admits a party, or does not.
func (d *dice) least(counts []int) int {
	if len(counts) == 0 || d.upTo(2) > 0 {
		return d.upTo(1)
	}
	return min(10000, counts[d.upTo(len(counts)-1)]+d.of(0, 0, 1))
}

// fall is what is asked: a rule for counts.
type fall struct {
	r      seat.Rule
	counts []int
}

func (d *dice) throw(parties, seats int) fall {
	counts := d.counts(parties)
	return fall{rule(d.method(), seats, d.least(counts)), counts}
}

// fixed are the cases of this file, for each method.
func fixed() []fall {
	var out []fall
	for _, m := range methods() {
		out = append(out,
			fall{rule(m, 7, 0), three()}, fall{rule(m, 7, 24), three()}, fall{rule(m, 7, 54), three()}, fall{rule(m, 0, 0), three()}, fall{rule(m, 2, 0), three()},
			fall{rule(m, 2, 0), list(10, 5)}, fall{rule(m, 1, 0), list(5, 5)}, fall{rule(m, 2, 0), list(5, 5)}, fall{rule(m, 3, 0), list(0, 5, 0)}, fall{rule(m, 5, 0), list(0, 0)}, fall{rule(m, 9, 0), nil},
			fall{rule(m, 10, 0), list(6, 6, 2)}, fall{rule(m, 60, 10000), list(10000)}, fall{rule(m, 60, 0), list(1, 1, 1, 1, 1, 1, 1, 1)}, fall{rule(m, 8, 0), list(9, 8, 7, 6, 5, 4, 3, 2)},
		)
	}
	return out
}

// forFalls calls check with the cases of this file, and with so many others.
func forFalls(t *testing.T, many int, check func(t *testing.T, d *dice, x fall)) {
	t.Helper()
	d := dice(1)
	for _, x := range fixed() {
		check(t, &d, x)
	}
	for range many {
		check(t, &d, d.throw(d.upTo(8), d.of(d.upTo(60), d.upTo(12), d.upTo(12), 60)))
		if t.Failed() {
			return
		}
	}
}
