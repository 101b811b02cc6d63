package seat_test

import (
	"slices"
	"testing"

	"tithing/api"
	"tithing/seat"
)

// only returns the result, if there is no tie.
func only(t *testing.T, x fall) ([]int, bool) {
	t.Helper()
	l, e := seat.Seats(x.r, x.counts)
	if e != api.OK && e != api.ErrTie {
		t.Fatalf("Seats of %v: %v, %v", x, l, e)
	}
	return l, e == api.OK
}

// spanBy returns the range of the seats of each party in all results, as the package tells it.
func spanBy(t *testing.T, x fall) []seat.Range {
	t.Helper()
	l, e := seat.Bounds(x.r, points(x.counts))
	if e != api.OK {
		t.Fatalf("Bounds of %v: %v, %v", x, l, e)
	}
	return l
}

// divisorMethod makes the method of the case one of divisors.
func (x fall) divisorMethod(d *dice) fall {
	if x.r.Method == seat.Remainder {
		x.r.Method = methods()[d.upTo(3)]
	}
	return x
}

// P10.7: if a party is admitted, all seats are given; the result is proved.
func TestAllSeats(t *testing.T) {
	given, nobody := 0, 0
	forFalls(t, 6000, func(t *testing.T, d *dice, x fall) {
		l, is := only(t, x)
		if !is {
			return
		}
		due := 0
		if votesOf(x.r, x.counts) > 0 {
			due = x.r.Seats
			given++
		} else if x.r.Seats > 0 {
			nobody++
		}
		if sumOf(l) != due || len(l) != len(x.counts) || !seat.ProveSeats(x.r, x.counts, l) {
			t.Errorf("Seats of %v: %v", x, l)
		}
		for party, n := range x.counts {
			if !isAdmitted(x.r, n) && l[party] != 0 {
				t.Errorf("Seats of %v: %v, but %d is not admitted", x, l, party)
			}
		}
	})
	if given < 3000 || nobody < 200 {
		t.Errorf("only %d results with seats, %d without anybody", given, nobody)
	}
}

// hasBetterClaim reports whether the first party's quotient is greater than the other one's with one seat less.
func (x fall) hasBetterClaim(l []int, party, other int) bool {
	return l[other] > 0 && order(x.r.Method, claim{x.counts[party], l[party]}, claim{x.counts[other], l[other] - 1}) > 0
}

// nobodyIsBetter reports whether no admitted party has a better claim than another one.
func (x fall) nobodyIsBetter(l []int) bool {
	for party, n := range x.counts {
		for other, m := range x.counts {
			if party != other && isAdmitted(x.r, n) && isAdmitted(x.r, m) && x.hasBetterClaim(l, party, other) {
				return false
			}
		}
	}
	return true
}

// P10.8: in the results of a method of divisors nobody has a better claim.
func TestNoBetterClaim(t *testing.T) {
	results := 0
	forFalls(t, 6000, func(t *testing.T, d *dice, x fall) {
		x = x.divisorMethod(d)
		l, is := only(t, x)
		if is && !x.nobodyIsBetter(l) {
			t.Errorf("Seats of %v: %v, with a better claim", x, l)
		}
		if is && len(l) > 1 && sumOf(l) > 1 {
			results++
		}
	})
	if results < 2500 {
		t.Errorf("only %d results", results)
	}
}

// P10.8: a list that gives all seats is a result just if nobody has a better claim.
func TestNoBetterClaimIsProof(t *testing.T) {
	is, isNot := 0, 0
	forFalls(t, 1500, func(t *testing.T, d *dice, x fall) {
		x = x.divisorMethod(d)
		x.counts = x.counts[:min(4, len(x.counts))]
		x.r.Seats = min(x.r.Seats, 7)
		if votesOf(x.r, x.counts) == 0 {
			return
		}
		forLists(slices.Repeat(ranges(to(0, x.r.Seats)), len(x.counts)), func(l []int) {
			admitted := true
			for party, n := range l {
				admitted = admitted && (n == 0 || isAdmitted(x.r, x.counts[party]))
			}
			if sumOf(l) != x.r.Seats || !admitted {
				return
			}
			due := x.nobodyIsBetter(l)
			if seat.ProveSeats(x.r, x.counts, l) != due {
				t.Errorf("ProveSeats of %v, %v: %v", x, l, !due)
			}
			if due {
				is++
			} else {
				isNot++
			}
		})
	})
	if is < 1000 || isNot < 10000 {
		t.Errorf("only %d lists are results, %d are none", is, isNot)
	}
}

// within makes counts in the ranges, often at their ends.
func (d *dice) within(l []seat.Range) []int {
	var counts []int
	for _, r := range l {
		counts = append(counts, d.of(r.Lo, r.Hi, d.from(r.Lo, r.Hi)))
	}
	return counts
}

// P10.9: for any counts in great ranges each result is within the bounds.
func TestWithinTheRanges(t *testing.T) {
	inside, ends := 0, 0
	forFalls(t, 1500, func(t *testing.T, d *dice, x fall) {
		x = x.divisorMethod(d)
		l := d.throwRanges(x.counts, d.of(3, 30, 300, 10000))
		got, e := seat.Bounds(x.r, l)
		if e != api.OK || len(got) != len(l) {
			t.Fatalf("Bounds of %v, %v: %v, %v", x.r, l, got, e)
		}
		for range 5 {
			for i, span := range spanOf(resultsOf(x.r, d.within(l))) {
				if span.Lo < got[i].Lo || span.Hi > got[i].Hi {
					t.Errorf("Bounds of %v, %v: %v, but %d can have %v", x.r, l, got, i, span)
				}
				if got[i].Lo < span.Lo && span.Hi < got[i].Hi {
					inside++
				}
				if got[i].Lo < got[i].Hi && (span.Lo == got[i].Lo || span.Hi == got[i].Hi) {
					ends++
				}
			}
		}
	})
	if inside < 500 || ends < 5000 {
		t.Errorf("only %d parties inside their bounds, %d at an end", inside, ends)
	}
}

// P10.9: both ends are reached, by the counts that are best and worst for the party.
func TestEndsAreReached(t *testing.T) {
	wide := 0
	forFalls(t, 2000, func(t *testing.T, d *dice, x fall) {
		x = x.divisorMethod(d)
		l := d.throwRanges(x.counts, d.of(3, 30, 300, 10000))
		got, _ := seat.Bounds(x.r, l)
		for party := range l {
			worst, best := make([]int, len(l)), make([]int, len(l))
			for i, r := range l {
				worst[i], best[i] = r.Hi, r.Lo
			}
			worst[party], best[party] = l[party].Lo, l[party].Hi
			low, high := spanOf(resultsOf(x.r, worst))[party].Lo, spanOf(resultsOf(x.r, best))[party].Hi
			if got[party] != to(low, high) {
				t.Errorf("Bounds of %v, %v: %v, not %d..%d for %d", x.r, l, got, low, high, party)
			}
			if high > low {
				wide++
			}
		}
	})
	if wide < 2000 {
		t.Errorf("only %d bounds are wide", wide)
	}
}

// P10.10: by a method of divisors no party loses a seat with one seat more, in whichever results.
func TestMoreSeats(t *testing.T) {
	more := 0
	forFalls(t, 6000, func(t *testing.T, d *dice, x fall) {
		x = x.divisorMethod(d)
		if _, e := seat.Lost(x.r, x.counts); e != api.ErrNone && e != api.ErrTie {
			t.Errorf("Lost of %v: %v", x, e)
		}
		if x.r.Seats == 60 {
			return
		}
		before := spanBy(t, x)
		l, is := only(t, x)
		next, e := seat.Next(x.r, x.counts)
		x.r.Seats++
		for party, r := range spanBy(t, x) {
			if r.Lo < before[party].Lo || r.Hi < before[party].Hi {
				t.Errorf("%v: %v, with one seat less %v", x, r, before[party])
			}
		}
		after, isAfter := only(t, x)
		if e == api.OK && (!is || !isAfter || !slices.Equal(after, plus(l, next, 1))) {
			t.Errorf("Next of %v: %d, from %v to %v", x, next, l, after)
		}
		if e == api.OK {
			more++
		}
	})
	if more < 2500 {
		t.Errorf("only %d cases with one seat more", more)
	}
}

// P10.10: by largest remainders a party can lose a seat.
func TestMoreSeatsByRemainders(t *testing.T) {
	lost := 0
	forFalls(t, 6000, func(t *testing.T, d *dice, x fall) {
		x.r = rule(seat.Remainder, min(59, x.r.Seats), x.r.Least)
		party, e := seat.Lost(x.r, x.counts)
		if e != api.OK {
			return
		}
		before, _ := only(t, x)
		x.r.Seats++
		after, _ := only(t, x)
		for i := range party {
			if after[i] < before[i] {
				t.Errorf("Lost of %v: %d, but %d loses one too", x, party, i)
			}
		}
		if after[party] >= before[party] {
			t.Errorf("Lost of %v: %d has %d, then %d", x, party, before[party], after[party])
		}
		lost++
	})
	if lost < 80 {
		t.Errorf("only %d parties lose a seat", lost)
	}
}

// P10.11: by a method of divisors more votes are no fewer seats for one's own party, and no more for others.
func TestMoreVotes(t *testing.T) {
	gained, admitted := 0, 0
	forFalls(t, 6000, func(t *testing.T, d *dice, x fall) {
		x = x.divisorMethod(d)
		if len(x.counts) == 0 {
			return
		}
		party := d.upTo(len(x.counts) - 1)
		higher := fall{x.r, slices.Clone(x.counts)}
		higher.counts[party] = min(10000, x.counts[party]+d.of(1, 2, d.upTo(x.counts[party]+1), d.upTo(10000)))
		before, after := spanBy(t, x), spanBy(t, higher)
		for i := range before {
			a, b := before[i], after[i]
			if i != party {
				a, b = b, a
			}
			if b.Lo < a.Lo || b.Hi < a.Hi {
				t.Errorf("%v and then %v: %v and %v", x, higher.counts, before, after)
			}
		}
		if after[party].Lo > before[party].Hi {
			gained++
		}
		if isAdmitted(x.r, higher.counts[party]) != isAdmitted(x.r, x.counts[party]) {
			admitted++
		}
	})
	if gained < 1500 || admitted < 400 {
		t.Errorf("only %d gain seats, %d get admitted", gained, admitted)
	}
}

// P10.12: by largest remainders each party has a number of seats in its quota.
func TestQuota(t *testing.T) {
	low, high := 0, 0
	forFalls(t, 6000, func(t *testing.T, d *dice, x fall) {
		x.r.Method = seat.Remainder
		quota, e := seat.Quota(x.r, x.counts)
		l, is := only(t, x)
		if e != api.OK || !is {
			return
		}
		for party, n := range l {
			r := quota[party]
			if n < r.Lo || n > r.Hi {
				t.Errorf("Seats of %v: %v, Quota: %v", x, l, quota)
			}
			if r.Hi-r.Lo > 1 || r.Hi < r.Lo {
				t.Errorf("Quota of %v: %v", x, quota)
			}
			if r.Lo < r.Hi && n == r.Lo {
				low++
			}
			if r.Lo < r.Hi && n == r.Hi {
				high++
			}
		}
	})
	if low < 4000 || high < 4000 {
		t.Errorf("only %d shares are rounded down, %d up", low, high)
	}
}

// P10.13: if all counts and Least are multiplied, results and ties stay, and so do shares and who is next.
func TestMultiples(t *testing.T) {
	ties, results := 0, 0
	forFalls(t, 6000, func(t *testing.T, d *dice, x fall) {
		most := max(1, x.r.Least, slices.Max(append(slices.Clone(x.counts), 0)))
		if most > 5000 {
			return
		}
		by := d.of(2, 10000/most, d.from(2, 10000/most))
		y := fall{x.r, nil}
		y.r.Least *= by
		for _, n := range x.counts {
			y.counts = append(y.counts, n*by)
		}
		a, e := seat.Seats(x.r, x.counts)
		b, f := seat.Seats(y.r, y.counts)
		if !slices.Equal(a, b) || e != f {
			t.Errorf("Seats of %v: %v, %v; by %d: %v, %v", x, a, e, by, b, f)
		}
		if e == api.ErrTie {
			ties++
		} else if len(a) > 1 {
			results++
		}
		next, e := seat.Next(x.r, x.counts)
		next2, f := seat.Next(y.r, y.counts)
		quota, _ := seat.Quota(x.r, x.counts)
		quota2, _ := seat.Quota(y.r, y.counts)
		if next != next2 || e != f || !slices.Equal(quota, quota2) {
			t.Errorf("Next and Quota of %v: %d, %v, %v; by %d: %d, %v, %v", x, next, e, quota, by, next2, f, quota2)
		}
	})
	if ties < 500 || results < 2000 {
		t.Errorf("only %d ties, %d results", ties, results)
	}
}

// at returns the elements in this order.
func at[T any](l []T, order []int) []T {
	var out []T
	for _, i := range order {
		out = append(out, l[i])
	}
	return out
}

// P10.14, P7: if the parties are listed in another order, all moves with them.
func TestOrder(t *testing.T) {
	moved := 0
	forFalls(t, 4000, func(t *testing.T, d *dice, x fall) {
		order := d.order(len(x.counts))
		y := fall{x.r, at(x.counts, order)}
		a, e := seat.Seats(x.r, x.counts)
		b, f := seat.Seats(y.r, y.counts)
		if e != f || e == api.OK && !slices.Equal(at(a, order), b) {
			t.Errorf("Seats of %v: %v, %v; in the order %v: %v, %v", x, a, e, order, b, f)
		}
		if e == api.OK && !slices.Equal(a, b) {
			moved++
		}
		quota, _ := seat.Quota(x.r, x.counts)
		quota2, _ := seat.Quota(y.r, y.counts)
		if !slices.Equal(at(quota, order), quota2) {
			t.Errorf("Quota of %v: %v; in the order %v: %v", x, quota, order, quota2)
		}
		next, e := seat.Next(x.r, x.counts)
		next2, f := seat.Next(y.r, y.counts)
		if e != f || e == api.OK && order[next2] != next {
			t.Errorf("Next of %v: %d, %v; in the order %v: %d, %v", x, next, e, order, next2, f)
		}
		_, e = seat.Lost(x.r, x.counts)
		if _, f := seat.Lost(y.r, y.counts); e != f {
			t.Errorf("Lost of %v: %v; in the order %v: %v", x, e, order, f)
		}
		testOrder(t, d, x, order)
	})
	if moved < 1000 {
		t.Errorf("only %d results are moved", moved)
	}
}

// testOrder compares bounds, and the sizes of the smallest changes.
func testOrder(t *testing.T, d *dice, x fall, order []int) {
	_, a, e := seat.Shift(x.r, x.counts)
	_, b, f := seat.Shift(x.r, at(x.counts, order))
	if e != f || max(a, -a) != max(b, -b) {
		t.Errorf("Shift of %v: %d, %v; in the order %v: %d, %v", x, a, e, order, b, f)
	}
	x = x.divisorMethod(d)
	l := d.throwRanges(x.counts, 30)
	bounds, e := seat.Bounds(x.r, l)
	bounds2, f := seat.Bounds(x.r, at(l, order))
	if e != f || !slices.Equal(at(bounds, order), bounds2) {
		t.Errorf("Bounds of %v, %v: %v, %v; in the order %v: %v, %v", x.r, l, bounds, e, order, bounds2, f)
	}
}

// P10.14: parties with equal counts have equal numbers of seats, unless there is a tie.
func TestEqualCounts(t *testing.T) {
	equal := 0
	forFalls(t, 6000, func(t *testing.T, d *dice, x fall) {
		l, is := only(t, x)
		if !is {
			return
		}
		for i, n := range x.counts {
			for j := range i {
				if n != x.counts[j] {
					continue
				}
				if l[i] != l[j] {
					t.Errorf("Seats of %v: %v", x, l)
				}
				if l[i] > 0 {
					equal++
				}
			}
		}
	})
	if equal < 1000 {
		t.Errorf("only %d equal parties with seats", equal)
	}
}

// P10.15: the smallest change moves a seat, no smaller one does, and of those of its size no earlier one.
func TestSmallestChange(t *testing.T) {
	changes, great := 0, 0
	forFalls(t, 1200, func(t *testing.T, d *dice, x fall) {
		party, change, e := seat.Shift(x.r, x.counts)
		if e != api.OK {
			return
		}
		l, _ := only(t, x)
		size := max(change, -change)
		if size > 600 {
			return
		}
		if change == 0 || !movesSeat(x.r, x.counts, party, change, l) {
			t.Errorf("Shift of %v: %d, %d moves no seat", x, party, change)
		}
		for i, count := range x.counts {
			for n := max(-size, -count); n <= min(size, 10000-count); n++ {
				earlier := max(n, -n) < size || i < party || i == party && n > change
				if n != 0 && earlier && movesSeat(x.r, x.counts, i, n, l) {
					t.Errorf("Shift of %v: %d, %d, but %d, %d moves a seat", x, party, change, i, n)
				}
			}
		}
		changes++
		if size > 50 {
			great++
		}
	})
	if changes < 700 || great < 50 {
		t.Errorf("only %d changes, %d great ones", changes, great)
	}
}

// P10.16: Adams never favors the larger one of two parties more than Hondt does, in whichever results.
func TestManyAndFew(t *testing.T) {
	differ := 0
	forFalls(t, 6000, func(t *testing.T, d *dice, x fall) {
		x.r.Method = seat.Adams
		adams := resultsBy(t, x)
		x.r.Method = seat.Hondt
		for _, h := range resultsBy(t, x) {
			for _, a := range adams {
				for few, n := range x.counts {
					for many, m := range x.counts {
						if n < m && a[few] < h[few] && a[many] > h[many] {
							t.Errorf("%v: %v by Adams, %v by Hondt", x, a, h)
						}
					}
				}
				if !slices.Equal(a, h) {
					differ++
				}
			}
		}
	})
	if differ < 1000 {
		t.Errorf("only %d results differ", differ)
	}
}

// resultsBy returns the result, or those of a tie that the package proves.
func resultsBy(t *testing.T, x fall) [][]int {
	t.Helper()
	if l, is := only(t, x); is {
		return [][]int{l}
	}
	results := resultsOf(x.r, x.counts)
	for _, l := range results {
		if !seat.ProveSeats(x.r, x.counts, l) {
			t.Errorf("ProveSeats of %v: %v is a result", x, l)
		}
	}
	return results
}
