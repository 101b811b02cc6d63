package miss_test

import (
	"math/big"
	"slices"
	"testing"

	"tithing/api"
	"tithing/miss"
)

func found(a miss.Area, n int) miss.Area {
	a.Found = n
	return a
}

// P6.7: the chances of all numbers of found persons, and those of both tails.
func TestAllChances(t *testing.T) {
	tried := map[miss.Area]bool{}
	forAreas(t, func(t *testing.T, d *dice, a miss.Area) {
		if tried[found(a, 0)] {
			return
		}
		tried[found(a, 0)] = true
		for _, missed := range list(0, d.upTo(a.Most), d.upTo(a.Most), a.Most) {
			total := new(big.Rat)
			for n := range a.Sample + 1 {
				total = sum(total, chance(t, found(a, n), missed))
				most, _ := tails(t, found(a, n), missed)
				if n == a.Sample {
					if most.Cmp(one()) != 0 {
						t.Errorf("the chance of at most %d of %v for %d: %v", n, a, missed, most)
					}
					continue
				}
				if _, least := tails(t, found(a, n+1), missed); sum(most, least).Cmp(one()) != 0 || most.Cmp(total) != 0 {
					t.Errorf("the chances of at most %d, and at least one more, of %v for %d: %v, %v", n, a, missed, most, least)
				}
			}
			if total.Cmp(one()) != 0 {
				t.Errorf("all chances of %v for %d: %v", a, missed, total)
			}
		}
	})
}

// P6.8: the chance that the numbers which are not excluded contain the true one.
func TestConfidence(t *testing.T) {
	lost := 0
	d := dice(5)
	l := areas(ten(0), three(), area(20, 10, 12, 0), area(6, 8, 4, 0), area(30, 20, 5, 0))
	for range 20 {
		l = append(l, d.throwArea(25))
	}
	for _, a := range l {
		for _, level := range levels() {
			// Whatever is true, the sum over all samples that contain it.
			sums := make([]*big.Rat, a.Most+1)
			for missed := range sums {
				sums[missed] = new(big.Rat)
			}
			for n := range a.Sample + 1 {
				r, some := missedIn(t, found(a, n), level)
				for missed := range sums {
					if some && isIn(r, missed) {
						sums[missed].Add(sums[missed], chance(t, found(a, n), missed))
					}
				}
			}
			least := new(big.Rat).Sub(one(), sum(rat(level), rat(level)))
			for missed, is := range sums {
				if is.Cmp(least) < 0 {
					t.Fatalf("Missed of %v by %v contains %d with the chance %v", a, level, missed, is)
				}
				if is.Cmp(one()) < 0 {
					lost++
				}
			}
		}
	}
	if lost < 500 {
		t.Errorf("only %d times the chance is below 1", lost)
	}
}

// P6.9: more missed persons, and the numbers between the ends.
func TestMonotony(t *testing.T) {
	higher, inside := 0, 0
	forAreas(t, func(t *testing.T, d *dice, a miss.Area) {
		before, after := tails(t, a, 0)
		for missed := 1; missed <= a.Most; missed++ {
			most, least := tails(t, a, missed)
			if most.Cmp(before) < 0 || least.Cmp(after) > 0 {
				t.Errorf("Tail of %v for %d: %v, %v; for one less: %v, %v", a, missed, most, least, before, after)
			}
			if most.Cmp(before) > 0 {
				higher++
			}
			before, after = most, least
		}
		level := d.throwLevel()
		r, some := missedIn(t, a, level)
		if !some {
			return
		}
		for missed := range a.Most + 1 {
			most, least := tails(t, a, missed)
			excluded := most.Cmp(rat(level)) < 0 || least.Cmp(rat(level)) < 0
			if excluded == isIn(r, missed) {
				t.Errorf("Missed of %v by %v: %v; of %d: %v, %v", a, level, r, missed, most, least)
			}
			if r.Lo < missed && missed < r.Hi {
				inside++
			}
		}
	})
	if higher < 500 || inside < 200 {
		t.Errorf("only %d chances are higher, and %d numbers between the ends", higher, inside)
	}
}

// P6.10: lower levels, and the level 0.
func TestLevels(t *testing.T) {
	narrower := 0
	forAreas(t, func(t *testing.T, d *dice, a miss.Area) {
		wide := to(0, a.Most)
		isSome := true
		for _, level := range levels() {
			r, some := missedIn(t, a, level)
			if some && (!isSome || r.Lo < wide.Lo || r.Hi > wide.Hi) {
				t.Errorf("Missed of %v by %v: %v; by the level before: %v", a, level, r, wide)
			}
			if level.Num == 0 && (!some || r != to(0, a.Most)) {
				t.Errorf("Missed of %v by %v: %v, %v", a, level, r, some)
			}
			if some && r != wide {
				narrower++
			}
			wide, isSome = r, some
		}
	})
	if narrower < 300 {
		t.Errorf("only %d ranges are narrower", narrower)
	}
}

// P6.11: the ways to choose of one thing more, and to leave out.
func TestPascal(t *testing.T) {
	ways := func(n, k int) int {
		many, e := miss.Ways(n, k)
		if e != api.OK {
			t.Fatalf("Ways of %d, %d: %v", n, k, e)
		}
		return many
	}
	for n := range 61 {
		for k := range 61 {
			if k >= 1 && n < 60 && ways(n+1, k) != ways(n, k)+ways(n, k-1) {
				t.Errorf("Ways of %d, %d: %d; of one less: %d, %d", n+1, k, ways(n+1, k), ways(n, k), ways(n, k-1))
			}
			if k <= n && ways(n, k) != ways(n, n-k) {
				t.Errorf("Ways of %d, %d: %d; of the others: %d", n, k, ways(n, k), ways(n, n-k))
			}
		}
	}
}

// P6.12: a sample that is large enough, and one person less; more missed persons, and a lower level.
func TestSmallestSample(t *testing.T) {
	d := dice(6)
	some, smaller := 0, 0
	for range 300 {
		a := d.throwArea(40)
		missed, level := d.upTo(a.Most), d.throwLevel()
		n, e := miss.Enough(a.Listed, a.Most, missed, level)
		if e != api.OK {
			continue
		}
		some++
		if !isEnough(a.Listed, a.Most, missed, n, level) || n > 0 && isEnough(a.Listed, a.Most, missed, n-1, level) {
			t.Fatalf("Enough of %v, %d, %v: %d", a, missed, level, n)
		}
		if n > 0 {
			none := chance(t, area(a.Listed, a.Most, n, n), missed)
			if sum(none, rat(level)).Cmp(one()) > 0 {
				t.Fatalf("Enough of %v, %d, %v: %d; nobody is found with the chance %v", a, missed, level, n, none)
			}
		}
		more, lower := d.from(missed, a.Most), over(d.upTo(level.Num), level.Den)
		for _, x := range []struct {
			missed int
			level  miss.Fraction
		}{{more, level}, {missed, lower}, {more, lower}} {
			k, e := miss.Enough(a.Listed, a.Most, x.missed, x.level)
			if k > n || e != api.OK {
				t.Fatalf("Enough of %v, %d, %v: %d; for %d, %v: %d, %v", a, missed, level, n, x.missed, x.level, k, e)
			}
			if k < n {
				smaller++
			}
		}
	}
	if some < 100 || smaller < 100 {
		t.Errorf("only %d samples are found, and %d smaller ones", some, smaller)
	}
}

// forLots calls do with all lists of so many lots, of which each one is lower than the number of persons left.
func forLots(n, many int, do func(lots []int)) {
	var choose func(lots []int)
	choose = func(lots []int) {
		if len(lots) == many {
			do(lots)
			return
		}
		for lot := range n - len(lots) {
			choose(append(slices.Clone(lots), lot))
		}
	}
	choose(nil)
}

// P6.13: each sample is drawn by the same number of lists.
func TestFairLots(t *testing.T) {
	for n := range 7 {
		lists := 1
		for many := range n + 1 {
			samples := map[[6]bool]int{}
			forLots(n, many, func(lots []int) {
				l, e := miss.Draw(n, lots)
				var is [6]bool
				for _, person := range l {
					is[person] = true
				}
				if e != api.OK || len(l) != many || !slices.IsSorted(l) || slices.ContainsFunc(l, func(person int) bool { return person >= n }) {
					t.Fatalf("Draw of %d by %v: %v, %v", n, lots, l, e)
				}
				samples[is]++
			})
			if all, _ := miss.Ways(n, many); len(samples) != all {
				t.Errorf("%d samples of %d of %d persons are drawn", len(samples), many, n)
			}
			for sample, drawn := range samples {
				if drawn != lists {
					t.Errorf("%v of %d persons are drawn by %d lists, not %d", sample, n, drawn, lists)
				}
			}
			lists *= many + 1
		}
	}
}

// P6.14: nobody was missed.
func TestNobodyMissed(t *testing.T) {
	count := map[bool]int{}
	forAreas(t, func(t *testing.T, d *dice, a miss.Area) {
		for _, level := range levels() {
			r, some := missedIn(t, a, level)
			if is := some && r.Lo == 0; is != (a.Found == a.Sample || level.Num == 0) {
				t.Errorf("Missed of %v by %v: %v, %v", a, level, r, some)
			}
		}
		count[a.Found == a.Sample]++
	})
	if count[true] < 50 || count[false] < 50 {
		t.Errorf("only so many areas have samples that are all found, or not: %v", count)
	}
}

// P6.15, P7: areas in another order, and one area more.
func TestAreas(t *testing.T) {
	d := dice(7)
	count := 0
	for range 300 {
		l, level := d.throwAreas(5), over(d.upTo(100), 1000)
		r, e := miss.Total(l, level)
		var other []miss.Area
		for _, a := range l {
			other = slices.Insert(other, d.upTo(len(other)), a)
		}
		if s, e2 := miss.Total(other, level); s != r || e2 != e {
			t.Fatalf("Total of %v by %v: %v, %v; of %v: %v, %v", l, level, r, e, other, s, e2)
		}
		a := d.throwArea(20)
		own, some := missedIn(t, a, level)
		s, e2 := miss.Total(slices.Insert(slices.Clone(l), d.upTo(len(l)), a), level)
		if e == api.OK && some && (s != to(r.Lo+own.Lo, r.Hi+own.Hi) || e2 != api.OK) || (e != api.OK || !some) && e2 != api.ErrFail {
			t.Fatalf("Total of %v by %v: %v, %v; with %v, whose range is %v, %v: %v, %v", l, level, r, e, a, own, some, s, e2)
		}
		if e2 == api.OK && len(l) > 1 {
			count++
		}
	}
	if count < 50 {
		t.Errorf("only %d totals have a result", count)
	}
}
