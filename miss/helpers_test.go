package miss_test

import (
	"math/big"
	"math/bits"
	"slices"
	"testing"

	"tithing/api"
	"tithing/miss"
)

func over(num, den int) miss.Fraction { return miss.Fraction{Num: num, Den: den} }

func to(low, high int) miss.Range { return miss.Range{Lo: low, Hi: high} }

func area(listed, most, sample, found int) miss.Area {
	return miss.Area{Listed: listed, Most: most, Sample: sample, Found: found}
}

// ten is the area of the chapter's examples, with that Found.
func ten(found int) miss.Area { return area(10, 5, 4, found) }

// three is likely to miss 2 persons, or 3.
func three() miss.Area { return area(3, 4, 2, 1) }

func areas(l ...miss.Area) []miss.Area { return l }

func list(l ...int) []int { return l }

func rat(f miss.Fraction) *big.Rat { return big.NewRat(int64(f.Num), int64(f.Den)) }

// same reports whether the fraction is that number, in lowest terms.
func same(f miss.Fraction, want *big.Rat) bool {
	return want.Num().IsInt64() && want.Denom().IsInt64() && int64(f.Num) == want.Num().Int64() && int64(f.Den) == want.Denom().Int64()
}

// choose returns the number of ways from the factorials.
func choose(n, k int) *big.Int {
	if k < 0 || k > n {
		return new(big.Int)
	}
	above, below := big.NewInt(1), big.NewInt(1)
	for i := range k {
		above.Mul(above, big.NewInt(int64(n-i)))
		below.Mul(below, big.NewInt(int64(i+1)))
	}
	return above.Div(above, below)
}

// chanceOf returns the chance of that many found persons in the sample, as the chapter defines it.
func chanceOf(a miss.Area, missed, found int) *big.Rat {
	part := new(big.Int).Mul(choose(a.Listed, found), choose(missed, a.Sample-found))
	return new(big.Rat).SetFrac(part, choose(a.Listed+missed, a.Sample))
}

// chances returns the sum of the chances of all numbers from low to high.
func chances(a miss.Area, missed, low, high int) *big.Rat {
	sum := new(big.Rat)
	for found := low; found <= high; found++ {
		sum.Add(sum, chanceOf(a, missed, found))
	}
	return sum
}

// trySamples tries all samples of few persons: those on the lists have the first numbers. It returns how many of all samples have each number of found persons.
func trySamples(a miss.Area, missed int) (samples []int, all int) {
	samples = make([]int, a.Sample+1)
	for set := range uint(1) << (a.Listed + missed) {
		if bits.OnesCount(set) == a.Sample {
			samples[bits.OnesCount(set&(1<<a.Listed-1))]++
			all++
		}
	}
	return samples, all
}

// isExcluded tells what the chapter defines as excluded.
func isExcluded(a miss.Area, missed int, level miss.Fraction) bool {
	return chances(a, missed, 0, a.Found).Cmp(rat(level)) < 0 || chances(a, missed, a.Found, a.Sample).Cmp(rat(level)) < 0
}

// notExcluded returns all numbers from 0 to Most that the level does not exclude.
func notExcluded(a miss.Area, level miss.Fraction) []int {
	var l []int
	for missed := range a.Most + 1 {
		if !isExcluded(a, missed, level) {
			l = append(l, missed)
		}
	}
	return l
}

// likelyOf returns what the chapter defines as likely: each number is compared with each other one.
func likelyOf(a miss.Area) []int {
	var all []*big.Rat
	for missed := range a.Most + 1 {
		all = append(all, chanceOf(a, missed, a.Found))
	}
	var l []int
	for missed, chance := range all {
		higher := func(other *big.Rat) bool { return other.Cmp(chance) > 0 }
		if chance.Sign() > 0 && !slices.ContainsFunc(all, higher) {
			l = append(l, missed)
		}
	}
	return l
}

// someOther returns the chance that a sample has at least one person who is not on the lists: all numbers of them are tried.
func someOther(listed, missed, sample int) *big.Rat {
	return chances(area(listed, missed, sample, 0), missed, 0, sample-1)
}

// isEnough tells what the chapter defines as large enough.
func isEnough(listed, most, missed, sample int, level miss.Fraction) bool {
	for n := missed; n <= most; n++ {
		if someOther(listed, n, sample).Cmp(rat(level)) < 0 {
			return false
		}
	}
	return true
}

// drawn returns the sample that the lots draw: persons who are drawn are marked, and all others counted.
func drawn(n int, lots []int) []int {
	marked := make([]bool, n)
	for i, lot := range lots {
		skip := lot % (n - i)
		for person, is := range marked {
			if is {
				continue
			}
			if skip == 0 {
				marked[person] = true
			}
			skip--
		}
	}
	var l []int
	for person, is := range marked {
		if is {
			l = append(l, person)
		}
	}
	return l
}

// dice are thrown in the same way in each run.
type dice uint64

func (d *dice) upTo(most int) int {
	*d = *d*6364136223846793005 + 1442695040888963407
	return int(uint64(*d)>>33) % (most + 1)
}

func (d *dice) from(low, high int) int { return low + d.upTo(high-low) }

// throwArea makes an area of so many persons at most; often most of the sample is found.
func (d *dice) throwArea(persons int) miss.Area {
	listed := d.upTo(persons)
	sample := d.upTo(listed)
	found := d.upTo(sample)
	if d.upTo(1) == 0 {
		found = d.from(sample-sample/4, sample)
	}
	return area(listed, d.upTo(persons-listed), sample, found)
}

// throwLevel makes a level; it is often low.
func (d *dice) throwLevel() miss.Fraction {
	den := d.from(1, 1000)
	if d.upTo(2) == 0 {
		den = d.from(1, 12)
	}
	if d.upTo(1) == 0 {
		return over(d.upTo(den/5), den)
	}
	return over(d.upTo(den), den)
}

// throwAreas makes so many areas at most; mostly a low level excludes not all numbers of any.
func (d *dice) throwAreas(most int) []miss.Area {
	var l []miss.Area
	for range d.upTo(most) {
		a := d.throwArea(20)
		if d.upTo(9) > 0 && a.Sample-a.Found > a.Most {
			a.Found = a.Sample
		}
		l = append(l, a)
	}
	return l
}

func (d *dice) throwLots(n int) []int {
	var l []int
	for range d.upTo(n) {
		l = append(l, d.upTo(100))
	}
	return l
}

// levels returns some levels, the lowest ones first.
func levels() []miss.Fraction {
	return []miss.Fraction{over(0, 1), over(0, 1000), over(1, 1000), over(1, 100), over(1, 20), over(50, 1000), over(1, 10), over(1, 5), over(1, 4), over(2, 5), over(499, 999), over(1, 2), over(500, 1000), over(501, 1000), over(3, 5), over(7, 10), over(4, 5), over(9, 10), over(999, 1000), over(1, 1), over(1000, 1000)}
}

// smallAreas are all areas of so many persons at most.
func smallAreas(persons int) []miss.Area {
	var l []miss.Area
	for listed := range persons + 1 {
		for most := range persons - listed + 1 {
			for sample := range listed + 1 {
				for found := range sample + 1 {
					l = append(l, area(listed, most, sample, found))
				}
			}
		}
	}
	return l
}

// fixedAreas have as many persons as there can be, or are those of the chapter.
func fixedAreas() []miss.Area {
	return areas(
		ten(0), ten(1), ten(2), ten(3), ten(4), three(), area(6, 8, 4, 2), area(8, 20, 6, 2),
		area(0, 50, 0, 0), area(50, 0, 50, 50), area(50, 0, 25, 25), area(50, 0, 25, 24), area(49, 1, 25, 24), area(49, 1, 49, 48), area(1, 49, 1, 0), area(1, 49, 1, 1),
		area(25, 25, 25, 0), area(25, 25, 25, 12), area(25, 25, 25, 13), area(25, 25, 25, 25), area(26, 24, 25, 20), area(30, 20, 20, 15), area(30, 20, 25, 20), area(20, 30, 20, 9), area(40, 10, 20, 18), area(40, 10, 30, 27),
	)
}

// forAreas calls check with all areas of few persons, those of this file, and many others.
func forAreas(t *testing.T, check func(t *testing.T, d *dice, a miss.Area)) {
	t.Helper()
	d := dice(1)
	l := slices.Concat(smallAreas(6), fixedAreas())
	for i := range 200 {
		l = append(l, d.throwArea(50-i%3*15))
	}
	for _, a := range l {
		check(t, &d, a)
		if t.Failed() {
			return
		}
	}
}

// chance and tails return the numbers that the calls do.
func chance(t *testing.T, a miss.Area, missed int) *big.Rat {
	t.Helper()
	f, e := miss.Chance(a, missed)
	if e != api.OK || f.Den < 1 {
		t.Fatalf("Chance of %v for %d: %v, %v", a, missed, f, e)
	}
	return rat(f)
}

func tails(t *testing.T, a miss.Area, missed int) (most, least *big.Rat) {
	t.Helper()
	f, e := miss.Tail(a, missed, true)
	g, e2 := miss.Tail(a, missed, false)
	if e != api.OK || e2 != api.OK || f.Den < 1 || g.Den < 1 {
		t.Fatalf("Tail of %v for %d: %v, %v; %v, %v", a, missed, f, e, g, e2)
	}
	return rat(f), rat(g)
}

// missedIn returns what Missed does; no range has numbers if all are excluded.
func missedIn(t *testing.T, a miss.Area, level miss.Fraction) (r miss.Range, some bool) {
	t.Helper()
	r, e := miss.Missed(a, level)
	if e != api.OK && e != api.ErrFail {
		t.Fatalf("Missed of %v by %v: %v, %v", a, level, r, e)
	}
	return r, e == api.OK
}

func isIn(r miss.Range, n int) bool { return r.Lo <= n && n <= r.Hi }

func sum(l ...*big.Rat) *big.Rat {
	total := new(big.Rat)
	for _, x := range l {
		total.Add(total, x)
	}
	return total
}

func one() *big.Rat { return big.NewRat(1, 1) }
