package border_test

import (
	"slices"
	"testing"

	"tithing/api"
	"tithing/border"
)

// someTruth makes a truth of a consistent map: a truth that is filled, in which some people move to other streets of their districts.
func (d *dice) someTruth(m border.Map) []int {
	order := d.order(len(m.Streets))
	people := filled(m, func(i int) bool { return order[i]%2 == 0 })
	for range d.of(0, 5, 20) {
		a, b := d.upTo(len(people)-1), d.upTo(len(people)-1)
		if m.Streets[a].Old == m.Streets[b].Old {
			n := d.upTo(min(people[a]-m.Streets[a].People.Lo, m.Streets[b].People.Hi-people[b]))
			people[a] -= n
			people[b] += n
		}
	}
	return people
}

// P11.6, P4: the carried counts add up to the old counts, and so do the sizes in each truth.
func TestNobodyIsLost(t *testing.T) {
	people := 0
	forMaps(t, 6000, func(t *testing.T, d *dice, m border.Map) {
		truth := d.someTruth(m)
		if !border.ProveTruth(m, truth) || sumOf(sizesOf(m, truth)) != sumOf(m.Old) {
			t.Errorf("ProveTruth of %v, %v: it is one", m, truth)
		}
		m = changed(m, func(m *border.Map) {
			if d.upTo(1) == 0 {
				m.Old[d.upTo(len(m.Old)-1)] = d.upTo(10000)
			}
		})
		s, districts := carry(t, m)
		if sumOf(districts) != sumOf(m.Old) || !slices.Equal(addUp(m, s), m.Old) || !slices.Equal(sizesOf(m, s), districts) {
			t.Errorf("Carry of %v: %v, %v", m, s, districts)
		}
		if slices.Min(append(s, districts...)) < 0 {
			t.Errorf("Carry of %v: %v, %v", m, s, districts)
		}
		if len(m.Streets) > 3 && m.New > 1 && len(m.Old) > 1 {
			people++
		}
	})
	if people < 2000 {
		t.Errorf("only %d maps", people)
	}
}

// P11.7, P2: in truths the numbers of streets, and the sizes of districts, are within their bounds; truths reach both ends.
func TestBounds(t *testing.T) {
	inside, wide := 0, 0
	forMaps(t, 4000, func(t *testing.T, d *dice, m border.Map) {
		s, e := border.Streets(m)
		if e != api.OK || len(s) != len(m.Streets) {
			t.Fatalf("Streets of %v: %v, %v", m, s, e)
		}
		b := sizes(t, m)
		for range 5 {
			people := d.someTruth(m)
			for i, n := range people {
				if !inRange(s[i], n) {
					t.Errorf("Streets of %v: %v, but %v is a truth", m, s, people)
				}
			}
			for i, n := range sizesOf(m, people) {
				if !inRange(b[i], n) {
					t.Errorf("Bounds of %v: %v, but %v is a truth", m, b, people)
				}
				if b[i].Lo < n && n < b[i].Hi {
					inside++
				}
			}
		}
		for i, r := range s {
			few, many := streetExtremes(m, i)
			if !border.ProveTruth(m, few) || !border.ProveTruth(m, many) || r != to(few[i], many[i]) {
				t.Errorf("Streets of %v: %v, not %v, %v for %d", m, s, few, many, i)
			}
		}
		for i, r := range b {
			small, large := extremes(m, i)
			if !border.ProveTruth(m, small) || !border.ProveTruth(m, large) || r != to(sizesOf(m, small)[i], sizesOf(m, large)[i]) {
				t.Errorf("Bounds of %v: %v, not %v, %v for %d", m, b, small, large, i)
			}
			if r.Lo < r.Hi {
				wide++
			}
		}
	})
	if inside < 4000 || wide < 3000 {
		t.Errorf("only %d sizes inside their bounds, %d bounds that are wide", inside, wide)
	}
}

// P11.8: in each truth a size differs from the carried count by no more than Off tells, and in some truth by just that.
func TestOffInTruths(t *testing.T) {
	less, below, above := 0, 0, 0
	forMaps(t, 4000, func(t *testing.T, d *dice, m border.Map) {
		off, e := border.Off(m)
		if e != api.OK || len(off) != m.New {
			t.Fatalf("Off of %v: %v, %v", m, off, e)
		}
		_, carried := carry(t, m)
		for range 5 {
			for i, n := range sizesOf(m, d.someTruth(m)) {
				if far := max(n-carried[i], carried[i]-n); far > off[i] {
					t.Errorf("Off of %v: %v, but %d differs by %d", m, off, i, far)
				} else if far < off[i] {
					less++
				}
			}
		}
		for i, n := range off {
			small, large := extremes(m, i)
			down, up := carried[i]-sizesOf(m, small)[i], sizesOf(m, large)[i]-carried[i]
			if max(down, up) != n {
				t.Errorf("Off of %v: %v, but %d differs by %d, %d", m, off, i, down, up)
			}
			if down > up {
				below++
			} else if up > down {
				above++
			}
		}
	})
	if less < 4000 || below < 1000 || above < 1000 {
		t.Errorf("only %d sizes that differ less, %d below and %d above", less, below, above)
	}
}

// P11.9: with the same borders all carried counts, and all sizes, are the old counts.
func TestSameBorders(t *testing.T) {
	many := 0
	forMaps(t, 4000, func(t *testing.T, d *dice, m border.Map) {
		m = changed(m, func(m *border.Map) {
			m.New = len(m.Old)
			for i, s := range m.Streets {
				m.Streets[i].New = s.Old
			}
		})
		_, districts := carry(t, m)
		off, e := border.Off(m)
		if !slices.Equal(districts, m.Old) || !slices.Equal(off, make([]int, m.New)) || e != api.OK {
			t.Errorf("Carry, Off of %v: %v, %v, %v", m, districts, off, e)
		}
		for i, r := range sizes(t, m) {
			if r != to(m.Old[i], m.Old[i]) {
				t.Errorf("Bounds of %v: %v for %d", m, r, i)
			}
		}
		if len(m.Old) > 1 && len(m.Streets) > len(m.Old) {
			many++
		}
	})
	if many < 1500 {
		t.Errorf("only %d maps", many)
	}
}

// merged returns the map with the streets of the second district in the first one.
func merged(m border.Map, first, second int) border.Map {
	return changed(m, func(m *border.Map) {
		for i, s := range m.Streets {
			if s.New == second {
				m.Streets[i].New = first
			}
		}
	})
}

// P11.10: a merged district has the sum of both carried counts, and its bounds are within the sums of both.
func TestMerged(t *testing.T) {
	narrower, same := 0, 0
	forMaps(t, 4000, func(t *testing.T, d *dice, m border.Map) {
		if m.New == 1 {
			return
		}
		a := d.upTo(m.New - 1)
		b := (a + d.from(1, m.New-1)) % m.New
		one := merged(m, a, b)
		_, before := carry(t, m)
		_, after := carry(t, one)
		if after[a] != before[a]+before[b] || after[b] != 0 {
			t.Errorf("Carry of %v with %d, %d merged: %v, not %v", m, a, b, after, before)
		}
		apart, together := sizes(t, m), sizes(t, one)
		sum := to(apart[a].Lo+apart[b].Lo, apart[a].Hi+apart[b].Hi)
		if together[a].Lo < sum.Lo || together[a].Hi > sum.Hi || together[b] != to(0, 0) {
			t.Errorf("Bounds of %v with %d, %d merged: %v, not %v", m, a, b, together, apart)
		}
		if together[a] != sum {
			narrower++
		} else if sum.Lo < sum.Hi {
			same++
		}
	})
	if narrower < 500 || same < 300 {
		t.Errorf("only %d narrower bounds, %d as wide", narrower, same)
	}
}

// someBorders makes borders of the map: its own, or others, often with few streets moved.
func (d *dice) someBorders(m border.Map) []int {
	l := own(m)
	for range d.of(0, 1, 2, len(l), 3*len(l)) {
		l[d.upTo(len(l)-1)] = d.upTo(m.New - 1)
	}
	return l
}

// P11.11, P3, P5: best borders are right, and none that are right are better; those of the map are best, if they are right.
func TestRight(t *testing.T) {
	found, tried, stay := 0, 0, 0
	forMaps(t, 2500, func(t *testing.T, d *dice, m border.Map) {
		limits := d.limits(m)
		l, moved, is := best(t, m, limits)
		if is {
			found++
			if !border.ProveBorders(m, l, limits, moved) || !isRight(within(m, l), limits) || movedBy(m, l) != moved {
				t.Errorf("Best of %v within %v: %v, %d", m, limits, l, moved)
			}
		}
		for range 20 {
			other := d.someBorders(m)
			if !border.ProveBorders(m, other, limits, 8) {
				continue
			}
			n := movedBy(m, other)
			if !is || n < moved || n == moved && slices.Compare(other, l) < 0 {
				t.Errorf("Best of %v within %v: %v, %d, but %v, %d are right", m, limits, l, moved, other, n)
			}
			if n > 0 {
				tried++
			}
		}
		if isRight(m, limits) {
			stay++
			if moved != 0 || !slices.Equal(l, own(m)) {
				t.Errorf("Best of %v within %v: %v, %d", m, limits, l, moved)
			}
		}
	})
	if found < 500 || tried < 500 || stay < 200 {
		t.Errorf("only %d best borders, %d others that are right, %d of the maps", found, tried, stay)
	}
}

// P11.11: of greater maps too no borders at all are better.
func TestNoneAreBetter(t *testing.T) {
	moving := 0
	d := dice(6)
	for range 150 {
		m := d.throw(d.from(4, 6), d.of(5, 100, 1000), d.of(0, 2, 20))
		m.New = d.from(max(2, m.New), 4)
		limits := d.limits(m)
		if d.upTo(1) == 0 {
			limits = to(sumOf(m.Old)/(2*m.New), sumOf(m.Old)*2/m.New)
		}
		want, fewest := bestOf(m, limits)
		l, moved, _ := best(t, m, limits)
		if !slices.Equal(l, want) || moved != fewest {
			t.Fatalf("Best of %v within %v: %v, %d, not %v, %d", m, limits, l, moved, want, fewest)
		}
		if moved > 0 {
			moving++
		}
	}
	if moving < 30 {
		t.Errorf("only %d best borders that move streets", moving)
	}
}

// P11.12: with wider limits there are borders if there were, and no more streets are moved.
func TestWiderLimits(t *testing.T) {
	same, fewer, more := 0, 0, 0
	forMaps(t, 2500, func(t *testing.T, d *dice, m border.Map) {
		limits := d.limits(m)
		_, before, was := best(t, m, limits)
		by := d.of(1, 10, 100, 10000)
		_, after, is := best(t, m, to(d.from(max(0, limits.Lo-by), limits.Lo), d.from(limits.Hi, min(40000, limits.Hi+by))))
		switch {
		case was && (!is || after > before):
			t.Errorf("Best of %v within %v: %d, but %d within wider ones", m, limits, before, after)
		case was && after < before:
			fewer++
		case was && after > 0:
			same++
		case is:
			more++
		}
	})
	if same < 50 || fewer < 30 || more < 50 {
		t.Errorf("only %d maps with as many moved streets, %d with fewer, %d with borders only then", same, fewer, more)
	}
}

// narrower returns the map with narrower ranges of people, that still allow the truth.
func (d *dice) narrower(m border.Map, truth []int) border.Map {
	return changed(m, func(m *border.Map) {
		for i, s := range m.Streets {
			if d.upTo(1) == 0 {
				m.Streets[i].People = to(d.from(s.People.Lo, truth[i]), d.from(truth[i], s.People.Hi))
			}
		}
	})
}

// isWithin reports whether each of the ranges is within the other one.
func isWithin(l, outer []border.Range) bool {
	for i, r := range l {
		if r.Lo < outer[i].Lo || r.Hi > outer[i].Hi {
			return false
		}
	}
	return len(l) == len(outer)
}

// P11.12: with narrower ranges of people no bounds are wider, and no more streets are moved.
func TestNarrowerPeople(t *testing.T) {
	bounds, fewer, more := 0, 0, 0
	forMaps(t, 4000, func(t *testing.T, d *dice, m border.Map) {
		narrow := d.narrower(m, d.someTruth(m))
		limits := d.limits(narrow)
		s, e := border.Streets(m)
		s2, e2 := border.Streets(narrow)
		b, b2 := sizes(t, m), sizes(t, narrow)
		if !isWithin(s2, s) || !isWithin(b2, b) || e != api.OK || e2 != api.OK {
			t.Errorf("Streets, Bounds of %v: %v, %v, but of %v: %v, %v", m, s, b, narrow, s2, b2)
		}
		if !slices.Equal(b, b2) {
			bounds++
		}
		_, before, was := best(t, m, limits)
		_, after, is := best(t, narrow, limits)
		switch {
		case was && (!is || after > before):
			t.Errorf("Best of %v within %v: %d, but of %v: %d", m, limits, before, narrow, after)
		case was && after < before:
			fewer++
		case is && !was:
			more++
		}
	})
	if bounds < 800 || fewer < 20 || more < 50 {
		t.Errorf("only %d narrower bounds, %d maps with fewer moved streets, %d with borders only then", bounds, fewer, more)
	}
}

// P11.13: with a further join no more districts are apart, and no more streets are moved.
func TestFurtherJoin(t *testing.T) {
	fewerApart, fewer, more := 0, 0, 0
	forMaps(t, 4000, func(t *testing.T, d *dice, m border.Map) {
		if len(m.Joins) == 20 || len(m.Streets) == 1 {
			return
		}
		a := d.upTo(len(m.Streets) - 1)
		b := (a + d.from(1, len(m.Streets)-1)) % len(m.Streets)
		joined := changed(m, func(m *border.Map) { m.Joins = append(m.Joins, join(a, b)) })
		before, e := border.Apart(m)
		after, e2 := border.Apart(joined)
		for _, district := range after {
			if !slices.Contains(before, district) || e != api.OK || e2 != api.OK {
				t.Errorf("Apart of %v: %v, but %v with %d and %d joined", m, before, after, a, b)
			}
		}
		if len(after) < len(before) {
			fewerApart++
		}
		limits := d.limits(m)
		_, moved, was := best(t, m, limits)
		_, then, is := best(t, joined, limits)
		switch {
		case was && (!is || then > moved):
			t.Errorf("Best of %v within %v: %d, but %d with %d and %d joined", m, limits, moved, then, a, b)
		case was && then < moved:
			fewer++
		case is && !was:
			more++
		}
	})
	if fewerApart < 200 || fewer < 20 || more < 50 {
		t.Errorf("only %d maps with fewer districts apart, %d with fewer moved streets, %d with borders only then", fewerApart, fewer, more)
	}
}

// P11.14: with all weights multiplied all carried counts are the same.
func TestScaledWeights(t *testing.T) {
	scaled := 0
	forMaps(t, 4000, func(t *testing.T, d *dice, m border.Map) {
		heaviest := 0
		for _, s := range m.Streets {
			heaviest = max(heaviest, s.Weight)
		}
		by := d.from(1, 1000/heaviest)
		more := changed(m, func(m *border.Map) {
			for i := range m.Streets {
				m.Streets[i].Weight *= by
			}
		})
		s, districts := carry(t, m)
		s2, districts2 := carry(t, more)
		if !slices.Equal(s, s2) || !slices.Equal(districts, districts2) {
			t.Errorf("Carry of %v: %v, %v, but %v, %v with weights times %d", m, s, districts, s2, districts2, by)
		}
		if by > 1 && len(m.Streets) > len(m.Old) {
			scaled++
		}
	})
	if scaled < 1500 {
		t.Errorf("only %d maps", scaled)
	}
}

// reordered returns the map with its streets and joins in another order, and for each street of it which one it was.
func (d *dice) reordered(m border.Map) (border.Map, []int) {
	order := d.order(len(m.Streets))
	place := make([]int, len(order))
	other := border.Map{Old: slices.Clone(m.Old), New: m.New}
	for i, was := range order {
		place[was] = i
		other.Streets = append(other.Streets, m.Streets[was])
	}
	for _, i := range d.order(len(m.Joins)) {
		a, b := place[m.Joins[i].A], place[m.Joins[i].B]
		if d.upTo(1) == 0 {
			a, b = b, a
		}
		other.Joins = append(other.Joins, join(a, b))
	}
	return other, order
}

// P7: in another order streets and joins lead to the same ranges, to the same districts that are apart, and to as many moved streets.
func TestAnyOrder(t *testing.T) {
	moving := 0
	forMaps(t, 2500, func(t *testing.T, d *dice, m border.Map) {
		other, order := d.reordered(m)
		s, _ := border.Streets(m)
		s2, _ := border.Streets(other)
		for i, was := range order {
			if s2[i] != s[was] {
				t.Errorf("Streets of %v: %v, but %v of %v", m, s, s2, other)
			}
		}
		apart, _ := border.Apart(m)
		apart2, _ := border.Apart(other)
		if !slices.Equal(sizes(t, m), sizes(t, other)) || !slices.Equal(apart, apart2) {
			t.Errorf("Bounds or Apart of %v and %v differ", m, other)
		}
		limits := d.limits(m)
		_, moved, is := best(t, m, limits)
		_, moved2, is2 := best(t, other, limits)
		if moved != moved2 || is != is2 {
			t.Errorf("Best of %v within %v: %d, but %d of %v", m, limits, moved, moved2, other)
		}
		if moved > 0 {
			moving++
		}
	})
	if moving < 100 {
		t.Errorf("only %d maps with moved streets", moving)
	}
}

// The same join, however often and in whatever direction it is given, leads to the same.
func TestSameJoins(t *testing.T) {
	forMaps(t, 1500, func(t *testing.T, d *dice, m border.Map) {
		twice := changed(m, func(m *border.Map) {
			for len(m.Joins) < 20 && len(m.Joins) > 0 {
				j := m.Joins[d.upTo(len(m.Joins)-1)]
				m.Joins = append(m.Joins, join(j.B, j.A))
			}
		})
		apart, _ := border.Apart(m)
		apart2, e := border.Apart(twice)
		limits := d.limits(m)
		l, moved, _ := best(t, m, limits)
		l2, moved2, _ := best(t, twice, limits)
		if !slices.Equal(apart, apart2) || e != api.OK || !slices.Equal(l, l2) || moved != moved2 {
			t.Errorf("Apart, Best of %v and of %v differ", m, twice)
		}
	})
}
