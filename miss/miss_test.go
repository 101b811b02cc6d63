package miss_test

import (
	"slices"
	"testing"

	"tithing/api"
	"tithing/miss"
)

// P6.1: the number of ways to choose k of n things.
func TestWays(t *testing.T) {
	for _, x := range []struct{ n, k, want int }{
		{0, 0, 1}, {0, 1, 0}, {0, 60, 0}, {1, 0, 1}, {1, 1, 1}, {1, 2, 0}, {4, 2, 6}, {10, 3, 120}, {10, 11, 0}, {11, 4, 330}, {12, 4, 495},
		{50, 25, 126410606437752}, {59, 60, 0}, {60, 0, 1}, {60, 1, 60}, {60, 30, 118264581564861424}, {60, 59, 60}, {60, 60, 1},
	} {
		if n, e := miss.Ways(x.n, x.k); n != x.want || e != api.OK {
			t.Errorf("Ways of %d, %d: %d, %v, not %d", x.n, x.k, n, e, x.want)
		}
	}
	for n := range 61 {
		for k := range 61 {
			if got, e := miss.Ways(n, k); int64(got) != choose(n, k).Int64() || e != api.OK {
				t.Errorf("Ways of %d, %d: %d, %v, not %v", n, k, got, e, choose(n, k))
			}
		}
	}
}

// P6.1: areas that are as described.
func TestCheckArea(t *testing.T) {
	for _, a := range slices.Concat(smallAreas(6), fixedAreas(), areas(miss.Area{}, area(50, 0, 0, 0), area(0, 50, 0, 0))) {
		if e := miss.CheckArea(a); e != api.OK {
			t.Errorf("CheckArea of %v: %v", a, e)
		}
	}
}

// P6.2: the chapter's examples, and chances that are plain.
func TestChances(t *testing.T) {
	nobody, sure := over(0, 1), over(1, 1)
	for _, x := range []struct {
		a                  miss.Area
		missed             int
		point, most, least miss.Fraction
	}{
		{ten(3), 0, nobody, nobody, sure}, {ten(3), 1, over(4, 11), over(4, 11), sure}, {ten(3), 2, over(16, 33), over(19, 33), over(10, 11)}, {ten(3), 3, over(72, 143), over(101, 143), over(114, 143)},
		{ten(4), 0, sure, sure, sure}, {ten(4), 5, over(2, 13), sure, over(2, 13)}, {ten(0), 3, nobody, nobody, sure}, {ten(0), 4, over(1, 1001), over(1, 1001), sure}, {ten(2), 1, nobody, nobody, sure},
		{miss.Area{}, 0, sure, sure, sure}, {area(0, 9, 0, 0), 9, sure, sure, sure}, {area(9, 9, 0, 0), 5, sure, sure, sure}, {area(50, 0, 50, 50), 0, sure, sure, sure}, {area(50, 0, 50, 0), 0, nobody, nobody, sure},
		{area(1, 1, 1, 0), 1, over(1, 2), over(1, 2), sure}, {area(1, 1, 1, 1), 1, over(1, 2), sure, over(1, 2)}, {area(1, 49, 1, 0), 49, over(49, 50), over(49, 50), sure}, {area(1, 49, 1, 1), 49, over(1, 50), sure, over(1, 50)},
		{area(25, 25, 25, 0), 25, over(1, 126410606437752), over(1, 126410606437752), sure}, {area(25, 25, 25, 25), 25, over(1, 126410606437752), sure, over(1, 126410606437752)},
	} {
		c, e := miss.Chance(x.a, x.missed)
		l, e2 := miss.Tail(x.a, x.missed, true)
		h, e3 := miss.Tail(x.a, x.missed, false)
		if c != x.point || l != x.most || h != x.least || e != api.OK || e2 != api.OK || e3 != api.OK {
			t.Errorf("Chance, Tail of %v for %d: %v, %v; %v, %v; %v, %v", x.a, x.missed, c, e, l, e2, h, e3)
		}
	}
}

// P6.2: all samples of few persons are tried.
func TestTrySamples(t *testing.T) {
	for _, a := range smallAreas(7) {
		for missed := range a.Most + 1 {
			samples, all := trySamples(a, missed)
			most, least := 0, 0
			for found, many := range samples {
				if found <= a.Found {
					most += many
				}
				if found >= a.Found {
					least += many
				}
			}
			c, _ := miss.Chance(a, missed)
			l, _ := miss.Tail(a, missed, true)
			h, _ := miss.Tail(a, missed, false)
			if !same(c, rat(over(samples[a.Found], all))) || !same(l, rat(over(most, all))) || !same(h, rat(over(least, all))) {
				t.Errorf("Chance, Tail of %v for %d: %v, %v, %v; of %d samples: %v", a, missed, c, l, h, all, samples)
			}
		}
	}
}

// P6.2: chances are in lowest terms, as the chapter defines them.
func TestLowestTerms(t *testing.T) {
	long := 0
	forAreas(t, func(t *testing.T, d *dice, a miss.Area) {
		for missed := range a.Most + 1 {
			c, e := miss.Chance(a, missed)
			l, e2 := miss.Tail(a, missed, true)
			h, e3 := miss.Tail(a, missed, false)
			if !same(c, chanceOf(a, missed, a.Found)) || !same(l, chances(a, missed, 0, a.Found)) || !same(h, chances(a, missed, a.Found, a.Sample)) || e != api.OK || e2 != api.OK || e3 != api.OK {
				t.Errorf("Chance, Tail of %v for %d: %v, %v; %v, %v; %v, %v", a, missed, c, e, l, e2, h, e3)
			}
			if c.Den > 1<<32 {
				long++
			}
		}
	})
	if long < 30 {
		t.Errorf("only %d chances have long numbers", long)
	}
}

// P6.3: the likely numbers, one or several.
func TestLikely(t *testing.T) {
	for _, x := range []struct {
		a    miss.Area
		want []int
		e    api.Errno
	}{
		{ten(3), list(3), api.OK}, {ten(4), list(0), api.OK}, {ten(2), list(5), api.OK}, {ten(0), list(5), api.OK}, {three(), list(2, 3), api.OK},
		{area(3, 2, 0, 0), list(0, 1, 2), api.OK}, {area(0, 3, 0, 0), list(0, 1, 2, 3), api.OK}, {area(4, 1, 3, 2), list(1), api.OK}, {area(3, 2, 2, 1), list(2), api.OK}, {area(9, 0, 5, 5), list(0), api.OK}, {miss.Area{}, list(0), api.OK},
		{area(4, 0, 3, 2), nil, api.ErrFail}, {area(4, 1, 3, 1), nil, api.ErrFail}, {area(20, 4, 20, 15), nil, api.ErrFail}, {area(20, 5, 20, 15), list(5), api.OK},
	} {
		if l, e := miss.Likely(x.a); !slices.Equal(l, x.want) || e != x.e {
			t.Errorf("Likely of %v: %v, %v, not %v", x.a, l, e, x.want)
		}
	}
	count := make([]int, 3)
	forAreas(t, func(t *testing.T, d *dice, a miss.Area) {
		want := likelyOf(a)
		l, e := miss.Likely(a)
		if !slices.Equal(l, want) || (e == api.OK) != (len(want) > 0) || e != api.OK && e != api.ErrFail {
			t.Errorf("Likely of %v: %v, %v, not %v", a, l, e, want)
		}
		count[min(len(l), 2)]++
	})
	if slices.Min(count) < 30 {
		t.Errorf("only so many areas have no likely number, one, or several: %v", count)
	}
}

// P6.4: the chapter's examples, and levels that equal a chance.
func TestMissed(t *testing.T) {
	for _, x := range []struct {
		a     miss.Area
		level miss.Fraction
		want  miss.Range
		e     api.Errno
	}{
		{ten(3), over(1, 10), to(1, 5), api.OK}, {ten(3), over(2, 5), to(2, 5), api.OK}, {ten(3), over(0, 1), to(0, 5), api.OK}, {ten(3), over(1, 1000), to(1, 5), api.OK},
		// One missed person makes Found at most 3 in 4/11 of all samples, and two in 19/33; with five it is at least 3 in 54/91.
		{ten(3), over(4, 11), to(1, 5), api.OK}, {ten(3), over(364, 1000), to(2, 5), api.OK}, {ten(3), over(40, 110), to(1, 5), api.OK}, {ten(3), over(19, 33), to(2, 5), api.OK}, {ten(3), over(576, 1000), to(3, 5), api.OK}, {ten(3), over(54, 91), to(3, 5), api.OK}, {ten(3), over(594, 1000), to(3, 4), api.OK},
		{ten(3), over(101, 143), to(3, 3), api.OK}, {ten(3), over(102, 143), to(0, 0), api.ErrFail}, {ten(3), over(1, 1), to(0, 0), api.ErrFail}, {ten(4), over(1, 1), to(0, 0), api.OK},
		{three(), over(500, 1000), to(1, 4), api.OK}, {three(), over(501, 1000), to(2, 4), api.OK}, {three(), over(4, 5), to(3, 3), api.OK}, {three(), over(801, 1000), to(0, 0), api.ErrFail},
		{area(4, 1, 3, 1), over(1, 1000), to(0, 0), api.ErrFail}, {area(4, 1, 3, 1), over(0, 1000), to(0, 1), api.OK}, {area(0, 50, 0, 0), over(1, 1), to(0, 50), api.OK}, {miss.Area{}, over(1, 1), to(0, 0), api.OK},
	} {
		if r, e := miss.Missed(x.a, x.level); r != x.want || e != x.e {
			t.Errorf("Missed of %v by %v: %v, %v, not %v, %v", x.a, x.level, r, e, x.want, x.e)
		}
	}
}

// P6.4: the minimum and the maximum number that is not excluded, as the chapter defines it; chances are levels, too.
func TestNotExcluded(t *testing.T) {
	count := map[bool]int{}
	equal := 0
	forAreas(t, func(t *testing.T, d *dice, a miss.Area) {
		tried := []miss.Fraction{over(0, 1), over(1, 20), over(1, 1), d.throwLevel(), d.throwLevel()}
		for missed := range a.Most + 1 {
			for _, most := range []bool{false, true} {
				if f, _ := miss.Tail(a, missed, most); f.Den <= 1000 && d.upTo(5) == 0 {
					tried = append(tried, f, over(min(f.Num+1, f.Den), f.Den))
					equal++
				}
			}
		}
		for _, level := range tried {
			left := notExcluded(a, level)
			r, some := missedIn(t, a, level)
			if some != (len(left) > 0) || some && r != to(slices.Min(left), slices.Max(left)) {
				t.Errorf("Missed of %v by %v: %v, %v; not excluded are %v", a, level, r, some, left)
			}
			count[some]++
		}
	})
	if count[true] < 500 || count[false] < 500 || equal < 200 {
		t.Errorf("only so many times some number was left, or none: %v; and %d levels are chances", count, equal)
	}
}

// P6.4: the sums of the ranges of several areas.
func TestTotal(t *testing.T) {
	for _, x := range []struct {
		l     []miss.Area
		level miss.Fraction
		want  miss.Range
		e     api.Errno
	}{
		{nil, over(1, 2), to(0, 0), api.OK}, {nil, over(0, 1), to(0, 0), api.OK}, {nil, over(1, 1), to(0, 0), api.OK},
		{areas(ten(3)), over(1, 10), to(1, 5), api.OK}, {areas(ten(3), three()), over(2, 5), to(3, 9), api.OK}, {areas(three(), three(), three()), over(3, 4), to(9, 9), api.OK}, {areas(ten(3), ten(3), ten(3), ten(3), ten(3), ten(3)), over(2, 5), to(12, 30), api.OK},
		{slices.Repeat(areas(area(0, 50, 0, 0)), 6), over(1, 1), to(0, 300), api.OK}, {make([]miss.Area, 6), over(1, 1), to(0, 0), api.OK},
		{areas(three(), ten(3)), over(9, 10), to(0, 0), api.ErrFail}, {areas(ten(4), ten(3)), over(9, 10), to(0, 0), api.ErrFail}, {areas(ten(3), ten(4)), over(9, 10), to(0, 0), api.ErrFail}, {areas(ten(4), ten(4)), over(9, 10), to(0, 0), api.OK},
	} {
		if r, e := miss.Total(x.l, x.level); r != x.want || e != x.e {
			t.Errorf("Total of %v by %v: %v, %v, not %v, %v", x.l, x.level, r, e, x.want, x.e)
		}
	}
	count := map[api.Errno]int{}
	d := dice(2)
	for range 300 {
		l, level := d.throwAreas(6), d.throwLevel()
		want, due := to(0, 0), api.OK
		for _, a := range l {
			left := notExcluded(a, level)
			if len(left) == 0 {
				want, due = to(0, 0), api.ErrFail
				break
			}
			want.Lo += left[0]
			want.Hi += left[len(left)-1]
		}
		if r, e := miss.Total(l, level); r != want || e != due {
			t.Fatalf("Total of %v by %v: %v, %v, not %v, %v", l, level, r, e, want, due)
		}
		count[due]++
	}
	if count[api.OK] < 50 || count[api.ErrFail] < 50 {
		t.Errorf("only so many totals have a result, or an error: %v", count)
	}
}

// P6.5: the chapter's examples, and samples of nobody and of all.
func TestEnough(t *testing.T) {
	for _, x := range []struct {
		listed, most, missed int
		level                miss.Fraction
		want                 int
		e                    api.Errno
	}{
		{10, 5, 2, over(1, 2), 4, api.OK}, {10, 5, 5, over(1, 2), 2, api.OK}, {10, 5, 1, over(1, 2), 6, api.OK},
		// With one missed person the chance of n sampled ones is n of 11.
		{10, 5, 1, over(6, 11), 6, api.OK}, {10, 5, 1, over(546, 1000), 7, api.OK}, {10, 5, 1, over(7, 11), 7, api.OK}, {10, 5, 1, over(10, 11), 10, api.OK}, {10, 5, 1, over(910, 1000), 0, api.ErrFail}, {10, 5, 1, over(1, 1), 0, api.ErrFail}, {10, 5, 1, over(1, 1000), 1, api.OK}, {10, 5, 5, over(1, 3), 1, api.OK}, {10, 5, 5, over(334, 1000), 2, api.OK},
		{10, 5, 0, over(0, 1), 0, api.OK}, {10, 5, 3, over(0, 7), 0, api.OK}, {10, 5, 0, over(1, 1000), 0, api.ErrFail}, {0, 5, 1, over(1, 1000), 0, api.ErrFail}, {0, 0, 0, over(0, 1), 0, api.OK}, {0, 5, 5, over(0, 1), 0, api.OK}, {0, 50, 50, over(1, 2), 0, api.ErrFail}, {50, 0, 0, over(1, 2), 0, api.ErrFail}, {50, 0, 0, over(0, 1), 0, api.OK},
		{1, 49, 49, over(49, 50), 1, api.OK}, {1, 49, 49, over(981, 1000), 0, api.ErrFail}, {49, 1, 1, over(49, 50), 49, api.OK}, {49, 1, 1, over(1, 2), 25, api.OK}, {49, 1, 1, over(501, 1000), 26, api.OK},
	} {
		if n, e := miss.Enough(x.listed, x.most, x.missed, x.level); n != x.want || e != x.e {
			t.Errorf("Enough of %d, %d, %d, %v: %d, %v, not %d, %v", x.listed, x.most, x.missed, x.level, n, e, x.want, x.e)
		}
	}
	d := dice(3)
	count := map[api.Errno]int{}
	for range 400 {
		a, level := d.throwArea(30), d.throwLevel()
		missed := d.upTo(a.Most)
		want, due := 0, api.OK
		for !isEnough(a.Listed, a.Most, missed, want, level) && due == api.OK {
			if want++; want > a.Listed {
				want, due = 0, api.ErrFail
			}
		}
		if n, e := miss.Enough(a.Listed, a.Most, missed, level); n != want || e != due {
			t.Fatalf("Enough of %d, %d, %d, %v: %d, %v, not %d, %v", a.Listed, a.Most, missed, level, n, e, want, due)
		}
		if want > 1 || due != api.OK {
			count[due]++
		}
	}
	if count[api.OK] < 100 || count[api.ErrFail] < 50 {
		t.Errorf("only so many samples are found, or not: %v", count)
	}
}

// P6.6: the chapter's example, and lots that are higher than the persons are many.
func TestDraw(t *testing.T) {
	for _, x := range []struct {
		n          int
		lots, want []int
	}{
		{5, list(7, 0, 2), list(0, 2, 4)}, {5, list(7), list(2)}, {5, list(7, 0), list(0, 2)}, {5, list(7, 0, 2, 1), list(0, 2, 3, 4)}, {5, list(7, 0, 2, 1, 9), list(0, 1, 2, 3, 4)},
		{3, list(0, 0, 0), list(0, 1, 2)}, {3, list(2, 1), list(1, 2)}, {3, list(2, 2), list(0, 2)}, {3, list(2, 2, 2), list(0, 1, 2)}, {4, list(3, 3, 3), list(0, 2, 3)}, {4, list(1, 1, 1), list(1, 2, 3)},
		{3, nil, nil}, {0, nil, nil}, {1, list(0), list(0)}, {1, list(999), list(0)}, {50, list(999, 49), list(0, 49)}, {50, list(49, 49), list(0, 49)}, {50, list(49), list(49)}, {50, list(50), list(0)},
		{50, make([]int, 50), drawn(50, make([]int, 50))}, {7, list(1<<63-1, 1<<63-1), list(0, 2)},
	} {
		if l, e := miss.Draw(x.n, x.lots); !slices.Equal(l, x.want) || e != api.OK {
			t.Errorf("Draw of %d by %v: %v, %v, not %v", x.n, x.lots, l, e, x.want)
		}
	}
	d := dice(4)
	for range 1000 {
		n := d.upTo(50)
		lots := d.throwLots(n)
		if l, e := miss.Draw(n, lots); !slices.Equal(l, drawn(n, lots)) || e != api.OK {
			t.Fatalf("Draw of %d by %v: %v, %v, not %v", n, lots, l, e, drawn(n, lots))
		}
	}
}
