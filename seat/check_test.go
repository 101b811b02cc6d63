package seat_test

import (
	"math"
	"slices"
	"testing"

	"tithing/api"
	"tithing/seat"
)

// call is one of the package's calls: it returns the error, and whether all else is zero.
type call func() (e api.Errno, zero bool)

// callsOf returns all calls with counts.
func callsOf(r seat.Rule, counts []int) map[string]call {
	return map[string]call{
		"Seats": func() (api.Errno, bool) { l, e := seat.Seats(r, counts); return e, len(l) == 0 },
		"Next":  func() (api.Errno, bool) { n, e := seat.Next(r, counts); return e, n == 0 },
		"Lost":  func() (api.Errno, bool) { n, e := seat.Lost(r, counts); return e, n == 0 },
		"Quota": func() (api.Errno, bool) { l, e := seat.Quota(r, counts); return e, len(l) == 0 },
		"Shift": func() (api.Errno, bool) {
			party, change, e := seat.Shift(r, counts)
			return e, party == 0 && change == 0
		},
	}
}

// bounds calls Bounds.
func bounds(r seat.Rule, l []seat.Range) call {
	return func() (api.Errno, bool) { l, e := seat.Bounds(r, l); return e, len(l) == 0 }
}

// testError tests that the call has this error, and with an error nothing else.
func testError(t *testing.T, what string, do call, due api.Errno) {
	t.Helper()
	if e, zero := do(); e != due || e != api.OK && !zero {
		t.Errorf("%s: %v, not %v; zero: %v", what, e, due, zero)
	}
}

func wrongRules() map[string]seat.Rule {
	return map[string]seat.Rule{
		"no rule":             {},
		"the method 0":        rule(0, 7, 0),
		"the method 6":        rule(6, 7, 0),
		"the method 255":      rule(255, 7, 0),
		"-1 seats":            rule(seat.Hondt, -1, 0),
		"61 seats":            rule(seat.Hondt, 61, 0),
		"the fewest seats":    rule(seat.Adams, math.MinInt, 0),
		"the most seats":      rule(seat.Remainder, math.MaxInt, 0),
		"at least -1":         rule(seat.Hondt, 7, -1),
		"at least 10001":      rule(seat.Hondt, 7, 10001),
		"the smallest least":  rule(seat.Hill, 7, math.MinInt),
		"the greatest least":  rule(seat.Remainder, 7, math.MaxInt),
		"nothing of it right": rule(9, -9, -9),
	}
}

// P10.1: the rules that are valid, and those that are not.
func TestCheckRule(t *testing.T) {
	for what, r := range wrongRules() {
		if e := seat.CheckRule(r); e != api.ErrArg {
			t.Errorf("CheckRule of %s: %v", what, e)
		}
	}
	for _, m := range methods() {
		for _, r := range []seat.Rule{rule(m, 0, 0), rule(m, 60, 0), rule(m, 0, 10000), rule(m, 60, 10000), rule(m, 7, 1)} {
			if e := seat.CheckRule(r); e != api.OK {
				t.Errorf("CheckRule of %v: %v", r, e)
			}
		}
	}
}

// wrongCounts are counts that are not valid, with their error.
func wrongCounts() map[string]struct {
	counts []int
	e      api.Errno
} {
	type wrong = struct {
		counts []int
		e      api.Errno
	}
	out := map[string]wrong{
		"9 parties":                   {make([]int, 9), api.ErrLimit},
		"10000 parties":               {make([]int, 10000), api.ErrLimit},
		"9 parties before the counts": {slices.Repeat(list(-1), 9), api.ErrLimit},
		"a count after 9 parties":     {list(1, 2, 3, 4, 5, 6, 7, 8, 10001), api.ErrLimit},
	}
	for what, n := range map[string]int{"-1": -1, "10001": 10001, "the smallest": math.MinInt, "the greatest": math.MaxInt} {
		out["the first count "+what] = wrong{list(n, 5, 3), api.ErrRange}
		out["the middle count "+what] = wrong{list(5, n, 3), api.ErrRange}
		out["the last count "+what] = wrong{list(1, 2, 3, 4, 5, 6, 7, n), api.ErrRange}
		out["the only count "+what] = wrong{list(n), api.ErrRange}
	}
	return out
}

// rangesAt returns ranges with the count alone, or up to 10000, or from 0.
func rangesAt(counts []int) [][]seat.Range {
	var high, low []seat.Range
	for _, n := range counts {
		high = append(high, to(n, 10000))
		low = append(low, to(0, n))
	}
	return [][]seat.Range{points(counts), high, low}
}

// The rows that begin with "all", in their order, before all others: no call with counts takes wrong ones.
func TestWrongCounts(t *testing.T) {
	for what, x := range wrongCounts() {
		for _, m := range methods() {
			for _, r := range []seat.Rule{rule(m, 7, 0), rule(m, 0, 0), rule(m, 60, 10000)} {
				for call, do := range callsOf(r, x.counts) {
					testError(t, call+" of "+what, do, x.e)
				}
				if seat.ProveSeats(r, x.counts, make([]int, len(x.counts))) || seat.ProveSeats(r, x.counts, nil) {
					t.Errorf("ProveSeats of %s", what)
				}
				testError(t, "Bounds of "+what, bounds(r, points(x.counts)), x.e)
			}
		}
		for ruleIs, r := range wrongRules() {
			for call, do := range callsOf(r, x.counts) {
				testError(t, call+" of "+what+" with "+ruleIs, do, api.ErrArg)
			}
			testError(t, "Bounds of "+what+" with "+ruleIs, bounds(r, points(x.counts)), api.ErrArg)
		}
	}
}

// The first row: no call takes a wrong rule, also without any party.
func TestWrongRules(t *testing.T) {
	for what, r := range wrongRules() {
		for _, counts := range [][]int{nil, list(5, 5), list(0, 0), three()} {
			for call, do := range callsOf(r, counts) {
				testError(t, call+" with "+what, do, api.ErrArg)
			}
			testError(t, "Bounds with "+what, bounds(r, points(counts)), api.ErrArg)
			for _, l := range [][]int{nil, make([]int, len(counts)), list(7, 0), list(4, 2, 1)} {
				if seat.ProveSeats(r, counts, l) {
					t.Errorf("ProveSeats with %s of %v, %v", what, counts, l)
				}
			}
		}
	}
}

// The row "all with counts", for Bounds: what is no range of counts.
func TestWrongRanges(t *testing.T) {
	good := ranges(to(0, 10000), to(5, 5), to(0, 0), to(10000, 10000))
	if _, e := seat.Bounds(rule(seat.Hondt, 7, 0), good); e != api.OK {
		t.Errorf("Bounds of %v: %v", good, e)
	}
	for _, wrong := range ranges(to(-1, 5), to(5, 10001), to(5, 4), to(10000, 0), to(-2, -1), to(10001, 10002), to(math.MinInt, math.MaxInt), to(0, math.MaxInt), to(math.MinInt, 0), to(math.MaxInt, math.MinInt)) {
		for _, m := range methods() {
			r := rule(m, 7, 0)
			for i := range good {
				l := slices.Clone(good)
				l[i] = wrong
				testError(t, "Bounds of a wrong range", bounds(r, l), api.ErrRange)
			}
			testError(t, "Bounds of one wrong range", bounds(r, ranges(wrong)), api.ErrRange)
			testError(t, "Bounds of 9 wrong ranges", bounds(r, slices.Repeat(ranges(wrong), 9)), api.ErrLimit)
			testError(t, "Bounds of a wrong range and a wrong rule", bounds(rule(m, 61, 0), ranges(wrong)), api.ErrArg)
		}
	}
	for what, x := range wrongCounts() {
		for _, l := range rangesAt(x.counts) {
			testError(t, "Bounds of ranges with "+what, bounds(rule(seat.Hill, 7, 0), l), x.e)
		}
	}
}

// The row of ErrState, and those after it: by largest remainders there is no Next, and there are no Bounds.
func TestWrongMethod(t *testing.T) {
	r := rule(seat.Remainder, 3, 0)
	for _, counts := range [][]int{nil, {}, list(0, 0), list(5, 5), three(), list(1, 2, 3, 4, 5, 6, 7, 8)} {
		testError(t, "Next by remainders", callsOf(r, counts)["Next"], api.ErrState)
		testError(t, "Bounds by remainders", bounds(r, points(counts)), api.ErrState)
		for _, m := range methods()[:4] {
			testError(t, "Bounds by a divisor", bounds(rule(m, 3, 0), points(counts)), api.OK)
		}
	}
}

// The rows of ErrNone: nobody is admitted, or nobody has fewer seats.
func TestNobody(t *testing.T) {
	for _, m := range methods()[:4] {
		for _, x := range []fall{{rule(m, 3, 0), nil}, {rule(m, 3, 0), list(0)}, {rule(m, 0, 0), list(0, 0)}, {rule(m, 60, 6), list(5, 5)}, {rule(m, 60, 10000), list(9999)}} {
			testError(t, "Next", callsOf(x.r, x.counts)["Next"], api.ErrNone)
			testError(t, "Lost", callsOf(x.r, x.counts)["Lost"], api.ErrNone)
			testError(t, "Seats", callsOf(x.r, x.counts)["Seats"], api.OK)
		}
		for _, x := range []fall{{rule(m, 7, 0), three()}, {rule(m, 60, 0), list(5)}, {rule(m, 0, 0), list(5, 4)}} {
			testError(t, "Lost", callsOf(x.r, x.counts)["Lost"], api.ErrNone)
			testError(t, "Next", callsOf(x.r, x.counts)["Next"], api.OK)
		}
	}
	for _, x := range []fall{{rule(seat.Remainder, 7, 0), three()}, {rule(seat.Remainder, 7, 0), nil}, {rule(seat.Remainder, 60, 0), list(5)}, {rule(seat.Remainder, 9, 6), list(5, 5)}} {
		testError(t, "Lost", callsOf(x.r, x.counts)["Lost"], api.ErrNone)
	}
}

// The row of ErrTie: with the seats; for Next and Lost also with one more; for no other call.
func TestTies(t *testing.T) {
	for _, x := range []struct {
		r         seat.Rule
		counts    []int
		now, more api.Errno // of the seats, and of the seats with one more
	}{
		{rule(seat.Hondt, 1, 0), list(10, 5), api.OK, api.ErrTie},
		{rule(seat.Hondt, 2, 0), list(10, 5), api.ErrTie, api.OK},
		{rule(seat.Hondt, 1, 0), list(5, 5, 5), api.ErrTie, api.ErrTie},
		{rule(seat.Hondt, 3, 0), list(10, 5), api.OK, api.OK},
		{rule(seat.Adams, 1, 0), list(5, 5), api.ErrTie, api.OK},
		{rule(seat.Adams, 2, 0), list(5, 5), api.OK, api.ErrTie},
		{rule(seat.Hill, 59, 0), list(5, 5), api.ErrTie, api.OK},
		{rule(seat.Hill, 60, 0), list(5, 5), api.OK, api.ErrTie},
		{rule(seat.Sainte, 2, 0), list(6, 2), api.ErrTie, api.OK},
		{rule(seat.Remainder, 1, 0), list(5, 5), api.ErrTie, api.OK},
		{rule(seat.Remainder, 60, 0), list(5, 5), api.OK, api.ErrTie},
		{rule(seat.Remainder, 4, 0), list(5, 5, 5), api.ErrTie, api.ErrTie},
		{rule(seat.Remainder, 10, 0), list(6, 6, 2), api.OK, api.OK},
	} {
		calls := callsOf(x.r, x.counts)
		either := max(x.now, x.more)
		testError(t, "Seats", calls["Seats"], x.now)
		testError(t, "Shift", calls["Shift"], x.now)
		testError(t, "Quota", calls["Quota"], api.OK)
		if x.r.Method == seat.Remainder {
			testError(t, "Next", calls["Next"], api.ErrState)
		} else {
			testError(t, "Next", calls["Next"], either)
			testError(t, "Bounds", bounds(x.r, points(x.counts)), api.OK)
		}
		if e, _ := calls["Lost"](); (e == api.ErrTie) != (either == api.ErrTie) {
			t.Errorf("Lost of %v, %v: %v", x.r, x.counts, e)
		}
	}
}

// The row of ErrFail, after the tie: without seats, or without parties, no change moves one.
func TestNoShift(t *testing.T) {
	for _, m := range methods() {
		for _, x := range []fall{{rule(m, 0, 0), three()}, {rule(m, 0, 0), list(5, 5)}, {rule(m, 0, 0), slices.Repeat(list(10000), 8)}, {rule(m, 60, 0), nil}, {rule(m, 60, 0), list()}} {
			testError(t, "Shift", callsOf(x.r, x.counts)["Shift"], api.ErrFail)
		}
		for _, x := range []fall{{rule(m, 1, 0), list(0)}, {rule(m, 1, 10000), list(0, 0)}, {rule(m, 60, 0), list(10000)}} {
			testError(t, "Shift", callsOf(x.r, x.counts)["Shift"], api.OK)
		}
	}
}

// P10.2, R11: what is no list of seats of the parties is not proved, even if its sum is right.
func TestWrongSeats(t *testing.T) {
	for _, m := range methods() {
		r := rule(m, 7, 0)
		good, _ := seat.Seats(r, three())
		if !seat.ProveSeats(r, three(), good) {
			t.Errorf("ProveSeats by %d of %v", m, good)
		}
		for _, l := range [][]int{
			nil, good[:2], append(slices.Clone(good), 0), make([]int, 9), make([]int, 10000), list(7), list(8, -1, 0), list(-1, 4, 4), list(7, 7, -7),
			list(math.MinInt, math.MinInt, 7), list(math.MaxInt, math.MaxInt, 9), list(math.MaxInt, math.MinInt, 8), list(1<<62, 1<<62, math.MinInt+7), list(1<<32, 7-1<<32, 0),
		} {
			if seat.ProveSeats(r, three(), l) {
				t.Errorf("ProveSeats by %d of %v", m, l)
			}
		}
	}
}
