package seat_test

import (
	"math"
	"slices"
	"testing"

	"tithing/api"
	"tithing/seat"
)

// roomy returns the list with free room behind it, which nobody may write to either.
func roomy[T any](list []T) []T { return slices.Grow(slices.Clone(list), 8) }

// whole returns the list with all the room behind it.
func whole[T any](list []T) []T { return slices.Clone(list[:cap(list)]) }

// spoil writes to all the memory of the list, up to its capacity.
func spoil[T any](list []T, with T) {
	list = list[:cap(list)]
	for i := range list {
		list[i] = with
	}
}

// R4: arguments are not written to, not even behind their ends.
func TestArgumentsAreKept(t *testing.T) {
	for _, x := range fixed() {
		l, _ := seat.Seats(x.r, x.counts)
		counts, seats, of := roomy(x.counts), roomy(l), roomy(points(x.counts))
		counts2, seats2, of2 := whole(counts), whole(seats), whole(of)
		for range 2 {
			for _, call := range callsOf(x.r, counts) {
				call()
			}
			seat.ProveSeats(x.r, counts, seats)
			seat.ProveSeats(x.r, seats, counts)
			bounds(x.r, of)()
		}
		if !slices.Equal(whole(counts), counts2) || !slices.Equal(whole(seats), seats2) || !slices.Equal(whole(of), of2) {
			t.Errorf("arguments are changed: %v, %v, %v", whole(counts), whole(seats), whole(of))
		}
	}
}

// R4: results are in memory of their own.
func TestMemory(t *testing.T) {
	for _, x := range fixed() {
		counts, of := roomy(x.counts), roomy(points(x.counts))
		before, before2 := whole(counts), whole(of)
		l, e := seat.Seats(x.r, counts)
		quota, e2 := seat.Quota(x.r, counts)
		got, e3 := seat.Bounds(x.r, of)
		want, want2, want3 := slices.Clone(l), slices.Clone(quota), slices.Clone(got)
		for range 3 {
			again, f := seat.Seats(x.r, counts)
			again2, f2 := seat.Quota(x.r, counts)
			again3, f3 := seat.Bounds(x.r, of)
			if !slices.Equal(again, want) || !slices.Equal(again2, want2) || !slices.Equal(again3, want3) || e != f || e2 != f2 || e3 != f3 {
				t.Errorf("Seats, Quota, Bounds of %v: %v, %v, %v, not %v, %v, %v", x, again, again2, again3, want, want2, want3)
			}
			spoil(again, -7)
			spoil(again2, to(-7, -7))
			spoil(again3, to(-7, -7))
			if !slices.Equal(whole(counts), before) || !slices.Equal(whole(of), before2) {
				t.Fatalf("arguments are changed: %v, %v", counts, of)
			}
			if !slices.Equal(l, want) || !slices.Equal(quota, want2) || !slices.Equal(got, want3) {
				t.Fatalf("results share memory: %v, %v, %v", l, quota, got)
			}
		}
	}
}

// R3: nil and a list without elements are the same.
func TestEmptyLists(t *testing.T) {
	for _, m := range methods() {
		for _, seats := range list(0, 1, 60) {
			r := rule(m, seats, 0)
			for _, none := range [][]int{nil, {}} {
				if l, e := seat.Seats(r, none); len(l) != 0 || e != api.OK || !seat.ProveSeats(r, none, nil) || !seat.ProveSeats(r, none, list()) {
					t.Errorf("Seats of %v, %v: %v, %v", r, none, l, e)
				}
				if l, e := seat.Quota(r, none); len(l) != 0 || e != api.OK {
					t.Errorf("Quota of %v, %v: %v, %v", r, none, l, e)
				}
				if _, _, e := seat.Shift(r, none); e != api.ErrFail {
					t.Errorf("Shift of %v, %v: %v", r, none, e)
				}
				if _, e := seat.Lost(r, none); e != api.ErrNone {
					t.Errorf("Lost of %v, %v: %v", r, none, e)
				}
			}
			due := api.OK
			if m == seat.Remainder {
				due = api.ErrState
			}
			for _, none := range [][]seat.Range{nil, {}} {
				if l, e := seat.Bounds(r, none); len(l) != 0 || e != due {
					t.Errorf("Bounds of %v, %v: %v, %v", r, none, l, e)
				}
			}
		}
	}
}

// wild makes a number of any size.
func (d *dice) wild() int {
	return d.of(math.MinInt, math.MinInt+1, -10001, -60, -1, 0, 1, 2, 5, 6, 8, 59, 60, 61, 62, 9999, 10000, 10001, 1<<31, 1<<32, 1<<62, math.MaxInt-1, math.MaxInt)
}

// wildList makes a list longer or shorter, or puts a wild number into it, or leaves it as it is.
func (d *dice) wildList(l []int) []int {
	l = slices.Clone(l)
	switch d.upTo(11) {
	case 0:
		return nil
	case 1:
		return slices.Concat(l, l)
	case 2:
		return l[:d.upTo(len(l))]
	case 3:
		return append(l, d.wild())
	case 4:
		if len(l) > 0 {
			l[d.upTo(len(l)-1)] = d.wild()
		}
	case 5:
		if len(l) > 0 {
			l[d.upTo(len(l)-1)] += d.of(-1, 1)
		}
	}
	return l
}

// wildFall spoils a case in one place, or in none.
func (d *dice) wildFall() fall {
	x := d.throw(d.upTo(8), d.upTo(60))
	switch d.upTo(11) {
	case 0:
		x.r.Method = uint8(d.upTo(255))
	case 1:
		x.r.Seats = d.wild()
	case 2:
		x.r.Least = d.wild()
	case 3:
		clear(x.counts)
	}
	x.counts = d.wildList(x.counts)
	return x
}

// wildRanges makes ranges of which some may be none.
func (d *dice) wildRanges(counts []int) []seat.Range {
	l := points(counts)
	for i, n := range counts {
		switch d.upTo(3) {
		case 0:
			l[i] = to(n, 10000)
		case 1:
			l[i] = to(0, n)
		}
	}
	if len(l) > 0 && d.upTo(3) == 0 {
		l[d.upTo(len(l)-1)] = to(d.wild(), d.wild())
	}
	return l
}

// errorOf tells what the chapter's rows that begin with "all" say.
func errorOf(r seat.Rule, parties int, wrong bool) api.Errno {
	switch {
	case r.Method < 1 || r.Method > 5 || r.Seats < 0 || r.Seats > 60 || r.Least < 0 || r.Least > 10000:
		return api.ErrArg
	case parties > 8:
		return api.ErrLimit
	case wrong:
		return api.ErrRange
	}
	return api.OK
}

func isWrongCount(n int) bool { return n < 0 || n > 10000 }

func isWrongRange(r seat.Range) bool {
	return r.Lo > r.Hi || isWrongCount(r.Lo) || isWrongCount(r.Hi)
}

// errorsOf tells what the chapter says of all calls with counts.
func errorsOf(x fall) map[string]api.Errno {
	due := map[string]api.Errno{}
	for call := range callsOf(x.r, x.counts) {
		due[call] = errorOf(x.r, len(x.counts), slices.ContainsFunc(x.counts, isWrongCount))
	}
	if due["Seats"] != api.OK {
		return due
	}
	_, lost, e := moreOf(x.r, x.counts)
	due["Next"], due["Lost"] = e, e
	if e == api.OK && lost < 0 {
		due["Lost"] = api.ErrNone
	}
	if votesOf(x.r, x.counts) == 0 {
		due["Next"] = api.ErrNone
	}
	if x.r.Method == seat.Remainder {
		due["Next"] = api.ErrState
	}
	if len(resultsOf(x.r, x.counts)) > 1 {
		due["Seats"], due["Shift"] = api.ErrTie, api.ErrTie
	} else if x.r.Seats == 0 || len(x.counts) == 0 {
		due["Shift"] = api.ErrFail
	}
	return due
}

// P1, R1, R2: each call returns, whatever its arguments are, with the first error, and with an error all else is zero.
func TestWildCounts(t *testing.T) {
	d := dice(9)
	count := map[api.Errno]int{}
	proved := 0
	for range 10000 {
		x := d.wildFall()
		due := errorsOf(x)
		for call, do := range callsOf(x.r, x.counts) {
			e, zero := do()
			if e != due[call] || e != api.OK && !zero {
				t.Fatalf("%s of %v: %v, not %v; zero: %v", call, x, e, due[call], zero)
			}
			count[e]++
		}
		if e := seat.CheckRule(x.r); e != errorOf(x.r, 0, false) {
			t.Fatalf("CheckRule of %v: %v", x.r, e)
		}
		if testWildProof(t, &d, x) {
			proved++
		}
		l := d.wildRanges(x.counts)
		e := errorOf(x.r, len(l), slices.ContainsFunc(l, isWrongRange))
		if e == api.OK && x.r.Method == seat.Remainder {
			e = api.ErrState
		}
		testError(t, "Bounds", bounds(x.r, l), e)
	}
	for _, e := range []api.Errno{api.OK, api.ErrArg, api.ErrRange, api.ErrLimit, api.ErrNone, api.ErrState, api.ErrFail, api.ErrTie} {
		if count[e] < 400 || proved < 1000 {
			t.Errorf("only so many errors: %v, and so many results: %d", count, proved)
		}
	}
}

// testWildProof asks for a proof of seats that may be wild, and reports whether there is one.
func testWildProof(t *testing.T, d *dice, x fall) bool {
	t.Helper()
	valid := errorOf(x.r, len(x.counts), slices.ContainsFunc(x.counts, isWrongCount)) == api.OK
	l, is := x.counts, false
	if valid {
		results := resultsOf(x.r, x.counts)
		l = d.wildList(results[d.upTo(len(results)-1)])
		is = isResult(results, l)
	}
	if seat.ProveSeats(x.r, x.counts, l) != is {
		t.Fatalf("ProveSeats of %v, %v: %v", x, l, !is)
	}
	return is
}

// A call with equal arguments returns equal results, whatever was called before it.
func TestNothingIsStored(t *testing.T) {
	type answer struct {
		seats, numbers []int
		quota, bounds  []seat.Range
		errors         []api.Errno
	}
	ask := func(x fall) answer {
		l, e := seat.Seats(x.r, slices.Clone(x.counts))
		quota, e2 := seat.Quota(x.r, slices.Clone(x.counts))
		of, e3 := seat.Bounds(x.r, points(x.counts))
		next, e4 := seat.Next(x.r, slices.Clone(x.counts))
		lost, e5 := seat.Lost(x.r, slices.Clone(x.counts))
		party, change, e6 := seat.Shift(x.r, slices.Clone(x.counts))
		return answer{l, list(next, lost, party, change), quota, of, []api.Errno{e, e2, e3, e4, e5, e6}}
	}
	for _, x := range fixed() {
		a := ask(x)
		for _, other := range fixed() {
			ask(other)
		}
		b := ask(x)
		if !slices.Equal(a.seats, b.seats) || !slices.Equal(a.numbers, b.numbers) || !slices.Equal(a.quota, b.quota) || !slices.Equal(a.bounds, b.bounds) || !slices.Equal(a.errors, b.errors) {
			t.Errorf("%v: %v; again: %v", x, a, b)
		}
	}
}
