package seat_test

import (
	"slices"
	"testing"

	"tithing/api"
	"tithing/seat"
)

// P10.1, P10.2, P10.4: the chapter's examples of seats and shares.
func TestExamples(t *testing.T) {
	for method, want := range map[uint8][]int{
		seat.Adams: list(3, 2, 2), seat.Hondt: list(4, 2, 1), seat.Sainte: list(3, 2, 2), seat.Hill: list(3, 2, 2), seat.Remainder: list(4, 2, 1),
	} {
		r := rule(method, 7, 0)
		if l, e := seat.Seats(r, three()); !slices.Equal(l, want) || e != api.OK || !seat.ProveSeats(r, three(), want) {
			t.Errorf("Seats by %d: %v, %v", method, l, e)
		}
		if l, e := seat.Quota(r, three()); !slices.Equal(l, ranges(to(3, 4), to(1, 2), to(1, 2))) || e != api.OK {
			t.Errorf("Quota by %d: %v, %v", method, l, e)
		}
		if e := seat.CheckRule(r); e != api.OK {
			t.Errorf("CheckRule of %v: %v", r, e)
		}
	}
	if l, e := seat.Seats(rule(seat.Hondt, 2, 0), list(10, 5)); l != nil || e != api.ErrTie {
		t.Errorf("Seats of 10, 5: %v, %v", l, e)
	}
}

// P10.3, P10.5, P10.6: the chapter's other examples.
func TestOtherExamples(t *testing.T) {
	r := rule(seat.Hondt, 7, 0)
	if party, e := seat.Next(r, three()); party != 2 || e != api.OK {
		t.Errorf("Next: %d, %v", party, e)
	}
	if l, e := seat.Bounds(r, ranges(to(52, 54), to(24, 24), to(22, 24))); !slices.Equal(l, ranges(to(4, 4), to(1, 2), to(1, 2))) || e != api.OK {
		t.Errorf("Bounds: %v, %v", l, e)
	}
	if party, change, e := seat.Shift(r, three()); party != 1 || change != -1 || e != api.OK {
		t.Errorf("Shift: %d, %d, %v", party, change, e)
	}
	ten := rule(seat.Remainder, 10, 0)
	if party, e := seat.Lost(ten, list(6, 6, 2)); party != 2 || e != api.OK {
		t.Errorf("Lost: %d, %v", party, e)
	}
	if l, e := seat.Seats(ten, list(6, 6, 2)); !slices.Equal(l, list(4, 4, 2)) || e != api.OK {
		t.Errorf("Seats of 6, 6, 2: %v, %v", l, e)
	}
	if l, e := seat.Seats(rule(seat.Remainder, 11, 0), list(6, 6, 2)); !slices.Equal(l, list(5, 5, 1)) || e != api.OK {
		t.Errorf("Seats of 6, 6, 2 with one more: %v, %v", l, e)
	}
}

// P10.1: results in which the methods differ from each other, or have a tie.
func TestMethods(t *testing.T) {
	for _, x := range []struct {
		seats                                  int
		counts                                 []int
		adams, hondt, sainte, hill, remainders []int // nil is a tie
	}{
		{1, list(5, 4), list(1, 0), list(1, 0), list(1, 0), list(1, 0), list(1, 0)},
		{1, list(5, 5), nil, nil, nil, nil, nil},
		{2, list(5, 5), list(1, 1), list(1, 1), list(1, 1), list(1, 1), list(1, 1)},
		{2, list(100, 1), list(1, 1), list(2, 0), list(2, 0), list(1, 1), list(2, 0)},
		{2, list(30, 10), list(1, 1), list(2, 0), nil, list(1, 1), nil},
		{2, list(30, 15), list(1, 1), nil, list(1, 1), list(1, 1), list(1, 1)},
		{3, list(20, 10), list(2, 1), list(2, 1), list(2, 1), list(2, 1), list(2, 1)},
		{4, list(20, 10), nil, list(3, 1), list(3, 1), list(3, 1), list(3, 1)},
		{4, list(18, 10), list(2, 2), list(3, 1), list(3, 1), list(3, 1), list(3, 1)},
		{4, list(17, 10), list(2, 2), list(3, 1), list(3, 1), list(2, 2), list(3, 1)},
		{4, list(5, 3), list(2, 2), list(3, 1), nil, list(2, 2), nil},
		{4, list(16, 10), list(2, 2), list(3, 1), list(2, 2), list(2, 2), list(2, 2)},
		{4, list(3, 2), list(2, 2), nil, list(2, 2), list(2, 2), list(2, 2)},
		{2, list(9, 7, 4), list(1, 1, 0), list(1, 1, 0), list(1, 1, 0), list(1, 1, 0), list(1, 1, 0)},
		{2, list(9, 7, 7), nil, nil, nil, nil, nil},
		{1, list(9, 7, 7), list(1, 0, 0), list(1, 0, 0), list(1, 0, 0), list(1, 0, 0), list(1, 0, 0)},
		{10, list(60, 39, 1), list(5, 4, 1), list(6, 4, 0), list(6, 4, 0), list(5, 4, 1), list(6, 4, 0)},
	} {
		for i, want := range [][]int{x.adams, x.hondt, x.sainte, x.hill, x.remainders} {
			due := api.OK
			if want == nil {
				due = api.ErrTie
			}
			if l, e := seat.Seats(rule(methods()[i], x.seats, 0), x.counts); !slices.Equal(l, want) || e != due {
				t.Errorf("Seats by %d of %v with %d seats: %v, %v, not %v", methods()[i], x.counts, x.seats, l, e, want)
			}
		}
	}
}

// P10.1: who is admitted, and what the others get.
func TestAdmitted(t *testing.T) {
	for _, x := range []struct {
		seats, least int
		counts, want []int
	}{
		{7, 23, three(), list(4, 2, 1)},
		{7, 24, three(), list(5, 2, 0)},
		{7, 25, three(), list(7, 0, 0)},
		{7, 53, three(), list(7, 0, 0)},
		{7, 54, three(), list(0, 0, 0)},
		{7, 10000, three(), list(0, 0, 0)},
		{0, 0, three(), list(0, 0, 0)},
		{0, 54, three(), list(0, 0, 0)},
		{5, 0, list(0, 0), list(0, 0)},
		{5, 1, list(0, 0), list(0, 0)},
		{5, 0, list(0, 1, 0), list(0, 5, 0)},
		{5, 1, list(0, 1, 0), list(0, 5, 0)},
		{5, 2, list(1, 1, 1), list(0, 0, 0)},
		{5, 2, list(1, 2, 1, 1), list(0, 5, 0, 0)},
		{60, 10000, list(9999, 10000), list(0, 60)},
		{60, 0, list(0, 0, 0, 0, 0, 0, 0, 10000), list(0, 0, 0, 0, 0, 0, 0, 60)},
	} {
		for _, m := range list(int(seat.Hondt), int(seat.Remainder)) {
			r := rule(uint8(m), x.seats, x.least)
			if l, e := seat.Seats(r, x.counts); !slices.Equal(l, x.want) || e != api.OK || !seat.ProveSeats(r, x.counts, x.want) {
				t.Errorf("Seats of %v, %v: %v, %v, not %v", r, x.counts, l, e, x.want)
			}
		}
	}
}

// P10.2: lists that are results, and some that are none.
func TestProofs(t *testing.T) {
	tie := rule(seat.Hondt, 2, 0)
	for _, x := range []struct {
		r             seat.Rule
		counts, seats []int
		want          bool
	}{
		{rule(seat.Hondt, 7, 0), three(), list(4, 2, 1), true},
		{rule(seat.Hondt, 7, 0), three(), list(4, 1, 2), false},
		{rule(seat.Hondt, 7, 0), three(), list(3, 2, 2), false},
		{rule(seat.Hondt, 7, 0), three(), list(4, 2, 0), false},
		{rule(seat.Hondt, 7, 0), three(), list(5, 2, 1), false},
		{rule(seat.Hondt, 7, 0), three(), list(0, 0, 0), false},
		{rule(seat.Hondt, 7, 0), three(), list(4, 2, 1, 0), false},
		{rule(seat.Hondt, 7, 0), three(), list(4, 3), false},
		{rule(seat.Hondt, 7, 0), three(), nil, false},
		{rule(seat.Hondt, 7, 24), three(), list(5, 2, 0), true},
		{rule(seat.Hondt, 7, 24), three(), list(4, 2, 1), false},
		{rule(seat.Hondt, 7, 24), three(), list(5, 2, 1), false},
		{rule(seat.Hondt, 7, 99), three(), list(0, 0, 0), true},
		{rule(seat.Hondt, 7, 99), three(), list(7, 0, 0), false},
		{rule(seat.Hondt, 7, 99), three(), list(0, 0, 1), false},
		{rule(seat.Hondt, 0, 0), three(), list(0, 0, 0), true},
		{rule(seat.Hondt, 0, 0), three(), list(1, 0, -1), false},
		{rule(seat.Hondt, 7, 0), list(5, 0), list(7, 0), true},
		{rule(seat.Hondt, 7, 0), list(5, 0), list(6, 1), false},
		{rule(seat.Adams, 1, 0), list(10000, 10000), list(0, 1), true},
		{rule(seat.Adams, 1, 0), list(10000, 9999), list(0, 1), false},
		{rule(seat.Adams, 2, 0), list(10000, 9999), list(2, 0), false},
		{rule(seat.Hill, 2, 0), list(10000, 1), list(1, 1), true},
		{tie, list(10, 5), list(2, 0), true},
		{tie, list(10, 5), list(1, 1), true},
		{tie, list(10, 5), list(0, 2), false},
		{rule(seat.Remainder, 10, 0), list(6, 6, 2), list(4, 4, 2), true},
		{rule(seat.Remainder, 10, 0), list(6, 6, 2), list(5, 4, 1), false},
		{rule(seat.Remainder, 10, 0), list(6, 6, 2), list(5, 5, 0), false},
		{rule(seat.Remainder, 10, 0), list(6, 6, 2), list(3, 4, 3), false},
		{rule(seat.Remainder, 4, 0), list(1, 1), list(2, 2), true},
		{rule(seat.Remainder, 4, 0), list(1, 1), list(3, 1), false},
		{rule(seat.Remainder, 4, 0), list(3, 3, 3), list(1, 2, 1), true},
		{rule(seat.Remainder, 4, 0), list(3, 3, 3), list(2, 2, 0), false},
		{rule(seat.Sainte, 9, 0), nil, nil, true},
		{rule(seat.Sainte, 9, 0), nil, list(), true},
		{rule(seat.Sainte, 9, 0), nil, list(9), false},
	} {
		if seat.ProveSeats(x.r, x.counts, x.seats) != x.want {
			t.Errorf("ProveSeats of %v, %v, %v: %v", x.r, x.counts, x.seats, !x.want)
		}
	}
}

// P10.1 to P10.4: seats, proofs, who has more and fewer with one seat more, and shares, by the definitions.
func TestByDefinition(t *testing.T) {
	ties, lost := 0, 0
	forFalls(t, 25000, func(t *testing.T, d *dice, x fall) {
		results := resultsOf(x.r, x.counts)
		want, due := results[0], api.OK
		if len(results) > 1 {
			want, due = nil, api.ErrTie
			ties++
		}
		if l, e := seat.Seats(x.r, x.counts); !slices.Equal(l, want) || e != due {
			t.Errorf("Seats of %v: %v, %v, not %v", x, l, e, results)
		}
		for _, l := range results {
			if !seat.ProveSeats(x.r, x.counts, l) {
				t.Errorf("ProveSeats of %v: %v is a result", x, l)
			}
		}
		testMore(t, x, &lost)
		testQuota(t, x)
	})
	if ties < 2000 || lost < 50 {
		t.Errorf("only %d ties, %d parties that lose a seat", ties, lost)
	}
}

// testMore compares Next and Lost with the results of both numbers of seats.
func testMore(t *testing.T, x fall, count *int) {
	next, lost, e := moreOf(x.r, x.counts)
	party, due := max(0, next), e
	switch {
	case x.r.Method == seat.Remainder:
		party, due = 0, api.ErrState
	case votesOf(x.r, x.counts) == 0:
		party, due = 0, api.ErrNone
	}
	if n, e := seat.Next(x.r, x.counts); n != party || e != due {
		t.Errorf("Next of %v: %d, %v, not %d, %v", x, n, e, party, due)
	}
	party, due = lost, e
	if due == api.OK && lost < 0 {
		due = api.ErrNone
	}
	if n, e := seat.Lost(x.r, x.counts); n != max(0, party) || e != due {
		t.Errorf("Lost of %v: %d, %v, not %d, %v", x, n, e, party, due)
	}
	if due == api.OK {
		*count++
	}
}

// testQuota tests that no other whole numbers are nearer below and above the shares.
func testQuota(t *testing.T, x fall) {
	l, e := seat.Quota(x.r, x.counts)
	if e != api.OK || len(l) != len(x.counts) {
		t.Errorf("Quota of %v: %v, %v", x, l, e)
		return
	}
	votes := votesOf(x.r, x.counts)
	for party, n := range x.counts {
		if !isAdmitted(x.r, n) {
			if l[party] != to(0, 0) {
				t.Errorf("Quota of %v: %v of one who is not admitted", x, l[party])
			}
			continue
		}
		low, high := 0, 0
		for (low+1)*votes <= n*x.r.Seats {
			low++
		}
		for high*votes < n*x.r.Seats {
			high++
		}
		if l[party] != to(low, high) {
			t.Errorf("Quota of %v: %v, not %d..%d", x, l, low, high)
		}
	}
}

// P10.2: of all lists just the results are proved.
func TestAllLists(t *testing.T) {
	is, several := 0, 0
	forFalls(t, 3000, func(t *testing.T, d *dice, x fall) {
		x.counts = x.counts[:min(4, len(x.counts))]
		x.r.Seats = min(x.r.Seats, 6)
		results := resultsOf(x.r, x.counts)
		proved := 0
		forLists(slices.Repeat(ranges(to(-1, x.r.Seats+1)), len(x.counts)), func(l []int) {
			if seat.ProveSeats(x.r, x.counts, l) {
				proved++
				if !isResult(results, l) {
					t.Errorf("ProveSeats of %v: %v is no result", x, l)
				}
			}
		})
		if proved != len(results) {
			t.Errorf("ProveSeats of %v: %d lists, not %d", x, proved, len(results))
		}
		is += proved
		if proved > 1 {
			several++
		}
	})
	if is < 1500 || several < 200 {
		t.Errorf("only %d lists are proved, %d cases have several", is, several)
	}
}

// P10.2: what is near to a result of great numbers is proved just if it is one.
func TestNearLists(t *testing.T) {
	is, isNot := 0, 0
	forFalls(t, 3000, func(t *testing.T, d *dice, x fall) {
		if len(x.counts) < 2 {
			return
		}
		results := resultsOf(x.r, x.counts)
		for range 5 {
			l := slices.Clone(results[d.upTo(len(results)-1)])
			l[d.upTo(len(l)-1)]++
			l[d.upTo(len(l)-1)]--
			if seat.ProveSeats(x.r, x.counts, l) != isResult(results, l) {
				t.Errorf("ProveSeats of %v: %v", x, l)
			}
			if isResult(results, l) {
				is++
			} else {
				isNot++
			}
		}
	})
	if is < 2000 || isNot < 5000 {
		t.Errorf("only %d lists are results, %d are none", is, isNot)
	}
}

// throwRanges makes ranges of at most so many numbers around counts.
func (d *dice) throwRanges(counts []int, width int) []seat.Range {
	var l []seat.Range
	for _, n := range counts {
		low := max(0, n-d.upTo(width))
		l = append(l, to(low, min(10000, low+d.upTo(width))))
	}
	return l
}

// P10.5: the bounds of small ranges, by all counts in them with all their results.
func TestBoundsByDefinition(t *testing.T) {
	wide, admitted := 0, 0
	forFalls(t, 2500, func(t *testing.T, d *dice, x fall) {
		if x.r.Method == seat.Remainder {
			return
		}
		x.counts = x.counts[:min(4, len(x.counts))]
		x.r.Seats = min(x.r.Seats, 12)
		l := d.throwRanges(x.counts, 3)
		want := boundsOf(x.r, l)
		if got, e := seat.Bounds(x.r, l); !slices.Equal(got, want) || e != api.OK {
			t.Errorf("Bounds of %v, %v: %v, %v, not %v", x.r, l, got, e, want)
		}
		for i, r := range want {
			if r.Hi > r.Lo+1 {
				wide++
			}
			if isAdmitted(x.r, l[i].Lo) != isAdmitted(x.r, l[i].Hi) {
				admitted++
			}
		}
	})
	if wide < 500 || admitted < 500 {
		t.Errorf("only %d wide bounds, %d parties that may be admitted", wide, admitted)
	}
}

// cornersOf returns the ranges of the seats of all parties in results of counts each of which is at an end of its range.
func cornersOf(r seat.Rule, l []seat.Range) []seat.Range {
	all := spanOf(resultsOf(r, make([]int, len(l))))
	first := true
	forLists(slices.Repeat(ranges(to(0, 1)), len(l)), func(ends []int) {
		var counts []int
		for i, end := range ends {
			counts = append(counts, list(l[i].Lo, l[i].Hi)[end])
		}
		span := spanOf(resultsOf(r, counts))
		if first {
			all, first = span, false
		}
		all = joined(all, span)
	})
	return all
}

// P10.5: the bounds of great ranges, by the ends of the ranges.
func TestBoundsOfGreatRanges(t *testing.T) {
	wide := 0
	forFalls(t, 120, func(t *testing.T, d *dice, x fall) {
		if x.r.Method == seat.Remainder {
			return
		}
		l := d.throwRanges(x.counts, d.of(10, 100, 1000, 10000))
		want := cornersOf(x.r, l)
		if got, e := seat.Bounds(x.r, l); !slices.Equal(got, want) || e != api.OK {
			t.Errorf("Bounds of %v, %v: %v, %v, not %v", x.r, l, got, e, want)
		}
		for _, r := range want {
			if r.Hi > r.Lo+5 {
				wide++
			}
		}
	})
	if wide < 50 {
		t.Errorf("only %d wide bounds", wide)
	}
}

// P10.5: bounds at the limits of what admits a party.
func TestBoundsOfAdmission(t *testing.T) {
	for _, x := range []struct {
		r       seat.Rule
		l, want []seat.Range
	}{
		{rule(seat.Hondt, 4, 5), ranges(to(4, 5), to(9, 9)), ranges(to(0, 1), to(3, 4))},
		{rule(seat.Hondt, 4, 5), ranges(to(0, 4), to(3, 9)), ranges(to(0, 0), to(0, 4))},
		{rule(seat.Hondt, 4, 5), ranges(to(0, 4), to(0, 4)), ranges(to(0, 0), to(0, 0))},
		{rule(seat.Adams, 4, 0), ranges(to(0, 10000), to(0, 10000)), ranges(to(0, 4), to(0, 4))},
		{rule(seat.Adams, 4, 0), ranges(to(1, 10000), to(1, 10000)), ranges(to(1, 3), to(1, 3))},
		{rule(seat.Hill, 4, 0), ranges(to(1, 10000), to(0, 10000)), ranges(to(1, 4), to(0, 3))},
		{rule(seat.Adams, 1, 0), ranges(to(3, 9), to(5, 5)), ranges(to(0, 1), to(0, 1))},
		{rule(seat.Adams, 1, 0), ranges(to(6, 9), to(5, 5)), ranges(to(1, 1), to(0, 0))},
		{rule(seat.Hondt, 2, 0), ranges(to(10, 10), to(5, 5)), ranges(to(1, 2), to(0, 1))},
		{rule(seat.Hondt, 0, 0), ranges(to(0, 10000), to(5, 5)), ranges(to(0, 0), to(0, 0))},
		{rule(seat.Hondt, 60, 0), slices.Repeat(ranges(to(0, 10000)), 8), slices.Repeat(ranges(to(0, 60)), 8)},
		{rule(seat.Hondt, 60, 0), slices.Repeat(ranges(to(10000, 10000)), 8), slices.Repeat(ranges(to(7, 8)), 8)},
	} {
		if got, e := seat.Bounds(x.r, x.l); !slices.Equal(got, x.want) || e != api.OK {
			t.Errorf("Bounds of %v, %v: %v, %v, not %v", x.r, x.l, got, e, x.want)
		}
	}
}

// P10.6: the smallest changes, by trying all changes.
func TestShiftByDefinition(t *testing.T) {
	up, down, none, great := 0, 0, 0, 0
	forFalls(t, 3000, func(t *testing.T, d *dice, x fall) {
		for party := range x.counts {
			x.counts[party] %= 501
		}
		x.r.Least = min(x.r.Least, 500)
		// Without seats no change moves one, which another test tells.
		if x.r.Seats == 0 || len(x.counts) == 0 {
			return
		}
		party, change, e := shiftOf(x.r, x.counts)
		n, got, due := seat.Shift(x.r, x.counts)
		if n != party || got != change || due != e {
			t.Errorf("Shift of %v: %d, %d, %v, not %d, %d, %v", x, n, got, due, party, change, e)
		}
		switch {
		case e != api.OK:
			none++
		case change > 0:
			up++
		default:
			down++
		}
		if max(change, -change) > 100 {
			great++
		}
	})
	if up < 500 || down < 500 || none < 300 || great < 10 {
		t.Errorf("only %d changes up, %d down, %d ties, %d great changes", up, down, none, great)
	}
}

// P10.6: which of several changes is the smallest one, how great it can be, and where there is none.
func TestShifts(t *testing.T) {
	eight := list(10000, 9999, 9998, 9997, 9996, 9995, 9994, 9993)
	for _, x := range []struct {
		r             seat.Rule
		counts        []int
		party, change int
		e             api.Errno
	}{
		{rule(seat.Hondt, 1, 0), list(10, 8), 0, -2, api.OK},
		{rule(seat.Hondt, 1, 0), list(8, 10), 0, 2, api.OK},
		{rule(seat.Hondt, 1, 0), list(7, 7, 10), 0, 3, api.OK},
		{rule(seat.Hondt, 1, 0), list(7, 8, 10), 1, 2, api.OK},
		{rule(seat.Hondt, 1, 0), list(1, 10000), 0, 9999, api.OK},
		{rule(seat.Hondt, 1, 0), list(10000, 1), 0, -9999, api.OK},
		{rule(seat.Hondt, 1, 0), list(10000, 0), 0, -10000, api.OK},
		{rule(seat.Hondt, 1, 0), list(0, 10000), 0, 10000, api.OK},
		{rule(seat.Hondt, 1, 0), list(9999, 0), 0, -9999, api.OK},
		{rule(seat.Hondt, 1, 10000), list(0), 0, 10000, api.OK},
		{rule(seat.Hondt, 1, 10000), list(9999), 0, 1, api.OK},
		{rule(seat.Hondt, 1, 10000), list(10000), 0, -1, api.OK},
		{rule(seat.Remainder, 60, 5000), list(10000, 0), 1, 5000, api.OK},
		{rule(seat.Remainder, 60, 5002), list(10000, 0), 0, -4999, api.OK},
		{rule(seat.Remainder, 1, 0), list(10000, 0), 0, -10000, api.OK},
		{rule(seat.Adams, 8, 0), eight, 7, -9993, api.OK},
		{rule(seat.Hill, 8, 0), eight, 7, -9993, api.OK},
		{rule(seat.Hondt, 60, 0), list(10000, 9678), 1, -1, api.OK},
		{rule(seat.Hondt, 60, 0), list(9999, 9677), 0, 1, api.OK},
		{rule(seat.Adams, 2, 0), list(10, 5), 1, -5, api.OK},
		{rule(seat.Hondt, 2, 3), list(9, 0), 1, 5, api.OK},
		{rule(seat.Hondt, 2, 5), list(9, 0), 0, -5, api.OK},
		{rule(seat.Hondt, 2, 7), list(9, 0), 0, -3, api.OK},
		{rule(seat.Hondt, 0, 0), three(), 0, 0, api.ErrFail},
		{rule(seat.Remainder, 0, 0), eight, 0, 0, api.ErrFail},
		{rule(seat.Adams, 0, 0), eight, 0, 0, api.ErrFail},
		{rule(seat.Adams, 0, 0), list(10000), 0, 0, api.ErrFail},
		{rule(seat.Hondt, 60, 0), nil, 0, 0, api.ErrFail},
		{rule(seat.Hondt, 0, 0), nil, 0, 0, api.ErrFail},
		{rule(seat.Hondt, 2, 0), list(10, 5), 0, 0, api.ErrTie},
	} {
		if party, change, e := seat.Shift(x.r, x.counts); party != x.party || change != x.change || e != x.e {
			t.Errorf("Shift of %v, %v: %d, %d, %v, not %d, %d, %v", x.r, x.counts, party, change, e, x.party, x.change, x.e)
		}
	}
}

// P10.1 to P10.6: the greatest numbers that there are.
func TestGreatest(t *testing.T) {
	great := list(10000, 9999, 9998, 9997, 9996, 9995, 9994, 1)
	for _, m := range methods() {
		for _, seats := range list(8, 59, 60) {
			for _, least := range list(0, 9999, 10000) {
				x := fall{rule(m, seats, least), great}
				results := resultsOf(x.r, x.counts)
				if l, e := seat.Seats(x.r, x.counts); len(results) > 1 || !slices.Equal(l, results[0]) || e != api.OK || !seat.ProveSeats(x.r, x.counts, l) {
					t.Errorf("Seats of %v: %v, %v, not %v", x, l, e, results)
				}
				lost := 0
				testMore(t, x, &lost)
				testQuota(t, x)
			}
		}
	}
}
