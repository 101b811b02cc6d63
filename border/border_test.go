package border_test

import (
	"slices"
	"testing"

	"tithing/api"
	"tithing/border"
)

// P11.1 to P11.4: the chapter's examples of counts, bounds and what is apart.
func TestExamples(t *testing.T) {
	m := town()
	if e := border.CheckMap(m); e != api.OK {
		t.Errorf("CheckMap: %v", e)
	}
	if s, d, e := border.Carry(m); !slices.Equal(s, list(60, 40, 50, 10)) || !slices.Equal(d, list(70, 90)) || e != api.OK {
		t.Errorf("Carry: %v, %v, %v", s, d, e)
	}
	if l, e := border.Streets(m); !slices.Equal(l, ranges(to(50, 70), to(30, 50), to(30, 60), to(0, 30))) || e != api.OK {
		t.Errorf("Streets: %v, %v", l, e)
	}
	if l, e := border.Bounds(m); !slices.Equal(l, ranges(to(50, 100), to(60, 110))) || e != api.OK {
		t.Errorf("Bounds: %v, %v", l, e)
	}
	if l, e := border.Off(m); !slices.Equal(l, list(30, 30)) || e != api.OK {
		t.Errorf("Off: %v, %v", l, e)
	}
	if l, e := border.Apart(m); !slices.Equal(l, list(0)) || e != api.OK {
		t.Errorf("Apart: %v, %v", l, e)
	}
}

// P11.5: the chapter's examples of borders.
func TestExamplesOfBorders(t *testing.T) {
	m, want := town(), list(0, 1, 1, 1)
	for _, limits := range ranges(to(30, 130), to(40, 120)) {
		if l, moved, e := border.Best(m, limits); !slices.Equal(l, want) || moved != 1 || e != api.OK {
			t.Errorf("Best within %v: %v, %d, %v", limits, l, moved, e)
		}
		if !border.ProveBorders(m, want, limits, 1) || border.ProveBorders(m, want, limits, 0) {
			t.Errorf("ProveBorders of %v within %v", want, limits)
		}
	}
	if l, e := border.Bounds(within(m, want)); !slices.Equal(l, ranges(to(50, 70), to(90, 110))) || e != api.OK {
		t.Errorf("Bounds: %v, %v", l, e)
	}
	if l, moved, e := border.Best(m, to(100, 100)); l != nil || moved != 0 || e != api.ErrNone {
		t.Errorf("Best within 100..100: %v, %d, %v", l, moved, e)
	}
}

// P11.1: carried counts with what cannot be divided, without a weight, and of districts without streets.
func TestCarry(t *testing.T) {
	of := func(count int, weights ...int) border.Map {
		m := border.Map{Old: list(count), New: 2}
		for i, w := range weights {
			m.Streets = append(m.Streets, street(0, i%2, w, 0, 0))
		}
		return m
	}
	crossed := border.Map{Old: list(10, 7, 0), New: 4, Streets: streets(street(1, 3, 1, 0, 0), street(0, 0, 1, 0, 0), street(2, 1, 9, 0, 0), street(0, 3, 1, 0, 0), street(1, 0, 1, 0, 0), street(0, 1, 1, 0, 0))}
	for _, x := range []struct {
		m                  border.Map
		streets, districts []int
	}{
		{of(100, 3, 2), list(60, 40), list(60, 40)},
		{of(0, 3, 2), list(0, 0), list(0, 0)},
		{of(7, 1), list(7), list(7, 0)},
		{of(7, 1000, 0), list(7, 0), list(7, 0)},
		{of(7, 0, 1), list(0, 7), list(0, 7)},
		{of(1, 1, 1, 1), list(1, 0, 0), list(1, 0)},
		{of(2, 1, 1, 1), list(1, 1, 0), list(1, 1)},
		{of(10, 1, 1, 1), list(4, 3, 3), list(7, 3)},
		{of(10, 1, 1, 1, 1, 1, 1, 1, 1), list(2, 2, 1, 1, 1, 1, 1, 1), list(5, 5)},
		{of(10, 1, 2, 3), list(2, 3, 5), list(7, 3)},
		{of(9, 1, 3, 3), list(1, 4, 4), list(5, 4)},
		{of(8, 1, 3, 3), list(1, 4, 3), list(4, 4)},
		{of(1, 2, 3), list(0, 1), list(0, 1)},
		{of(10000, 999, 1000, 1), list(4995, 5000, 5), list(5000, 5000)},
		{crossed, list(4, 4, 0, 3, 3, 3), list(7, 3, 0, 7)},
		{greatest(), slices.Repeat(list(5000), 8), slices.Repeat(list(10000), 4)},
	} {
		s, d := carry(t, x.m)
		if !slices.Equal(s, x.streets) || !slices.Equal(d, x.districts) {
			t.Errorf("Carry of %v: %v, %v, not %v, %v", x.m, s, d, x.streets, x.districts)
		}
	}
}

// P11.1: each count is divided over the streets of its district.
func TestCarryByDefinition(t *testing.T) {
	shared := 0
	forMaps(t, 6000, func(t *testing.T, d *dice, m border.Map) {
		if d.upTo(3) == 0 {
			m = changed(m, func(m *border.Map) { m.Old[0] = d.upTo(10000) })
		}
		s, districts := carry(t, m)
		want := carriedOf(m)
		if !slices.Equal(s, want) || !slices.Equal(districts, sizesOf(m, want)) {
			t.Errorf("Carry of %v: %v, %v, not %v", m, s, districts, want)
		}
		if len(m.Old) > 1 && len(m.Streets) > len(m.Old)+2 {
			shared++
		}
	})
	if shared < 1000 {
		t.Errorf("only %d maps with several districts of several streets", shared)
	}
}

// spanOf returns the ranges of the numbers of several lists.
func spanOf(lists [][]int) []border.Range {
	var span []border.Range
	for i, l := range lists {
		for j, n := range l {
			if i == 0 {
				span = append(span, to(n, n))
			}
			span[j] = to(min(span[j].Lo, n), max(span[j].Hi, n))
		}
	}
	return span
}

// allSizes returns the sizes in all truths.
func allSizes(m border.Map, truths [][]int) [][]int {
	var l [][]int
	for _, people := range truths {
		l = append(l, sizesOf(m, people))
	}
	return l
}

// anySmall makes a small map that need not be consistent.
func (d *dice) anySmall() border.Map {
	m := d.small()
	if d.upTo(3) == 0 {
		m.Old[d.upTo(len(m.Old)-1)] += d.from(1, 4)
	}
	return m
}

// P11.2, P11.3: the ranges and differences of all truths, which are tried; without any there are none.
func TestBoundsByDefinition(t *testing.T) {
	d := dice(2)
	without, wide := 0, 0
	for range 6000 {
		m := d.anySmall()
		truths := truthsOf(m)
		if len(truths) == 0 {
			without++
			for call, do := range callsOf(m) {
				if asksTruth(call) {
					testError(t, call+" without a truth", do, api.ErrFail)
				}
			}
			continue
		}
		s, e := border.Streets(m)
		b, f := border.Bounds(m)
		off, g := border.Off(m)
		all := allSizes(m, truths)
		if !slices.Equal(s, spanOf(truths)) || !slices.Equal(b, spanOf(all)) || e != api.OK || f != api.OK {
			t.Fatalf("Streets, Bounds of %v: %v, %v; %v, %v", m, s, e, b, f)
		}
		_, carried := carry(t, m)
		want := make([]int, m.New)
		for _, sizes := range all {
			for i, n := range sizes {
				want[i] = max(want[i], n-carried[i], carried[i]-n)
			}
		}
		if !slices.Equal(off, want) || g != api.OK {
			t.Fatalf("Off of %v: %v, %v, not %v", m, off, g, want)
		}
		if len(truths) > 5 && slices.Max(off) > 0 {
			wide++
		}
	}
	if without < 300 || wide < 800 {
		t.Errorf("only %d maps without a truth, %d with many", without, wide)
	}
}

// P11.2: lists around the truths are proved just if they are truths.
func TestProveTruth(t *testing.T) {
	d := dice(3)
	is, isNot := 0, 0
	for range 1200 {
		m := d.anySmall()
		if len(m.Streets) > 4 {
			continue
		}
		forLists(slices.Repeat(ranges(to(-1, 6)), len(m.Streets)), func(people []int) {
			due := isTruth(m, people)
			if border.ProveTruth(m, people) != due {
				t.Fatalf("ProveTruth of %v, %v: %v", m, people, !due)
			}
			if due {
				is++
			} else {
				isNot++
			}
		})
	}
	if is < 1000 || isNot < 100000 {
		t.Errorf("only %d truths, %d others", is, isNot)
	}
}

// P11.3: carried counts that no truth allows are off too.
func TestOff(t *testing.T) {
	for _, x := range []struct {
		m    border.Map
		want []int
	}{
		{town(), list(30, 30)},
		{townOf(120, 60, 2), list(18, 18)}, // 72 and 48 are carried, but it can only be 70 and 50; up to 30 live in the last street, to which 10 are carried.
		{townOf(120, 60, 1), list(0)},
		{townOf(100, 60, 4), list(30, 30, 0, 0)},
		{ring(0, 0, 1, 2, 2, 1), list(0, 0, 0)},
		{border.Map{Old: list(10), New: 2, Streets: streets(street(0, 0, 1, 0, 2), street(0, 1, 1, 8, 10))}, list(5, 5)},
		{border.Map{Old: list(10), New: 2, Streets: streets(street(0, 0, 1, 9, 9), street(0, 1, 1, 0, 10))}, list(4, 4)},
		{border.Map{Old: list(10), New: 2, Streets: streets(street(0, 0, 0, 3, 4), street(0, 1, 1, 0, 10))}, list(4, 4)},
		{border.Map{Old: list(10), New: 2, Streets: streets(street(0, 0, 1, 2, 6), street(0, 1, 1, 0, 10))}, list(3, 3)},
		{greatest(), slices.Repeat(list(10000), 4)},
	} {
		if l, e := border.Off(x.m); !slices.Equal(l, x.want) || e != api.OK {
			t.Errorf("Off of %v: %v, %v, not %v", x.m, l, e, x.want)
		}
	}
}

// P11.4: districts without streets, with one, and with some that meet or do not.
func TestApart(t *testing.T) {
	alone := func(m border.Map) border.Map { return changed(m, func(m *border.Map) { m.Joins = nil }) }
	for _, x := range []struct {
		m    border.Map
		want []int
	}{
		{town(), list(0)}, {townOf(100, 60, 4), list(0, 2, 3)}, {townOf(121, 60, 2), list(0)}, {within(town(), list(0, 0, 1, 1)), nil}, {within(town(), list(0, 1, 0, 1)), list(0, 1)}, {within(town(), list(1, 1, 1, 1)), list(0)},
		{alone(town()), list(0, 1)}, {row(0), nil}, {row(1), list(0)}, {row(3), list(0, 1, 2)}, {row(0, 1, 2, 3), nil}, {alone(row(0, 1, 2, 3)), nil}, {alone(row(0, 1, 2, 2)), list(2)},
		{row(0, 1, 0), list(0)}, {ring(0, 1, 0), nil}, {ring(0, 1, 0, 1), list(0, 1)}, {ring(0, 1, 2, 3, 0, 1, 2, 3), list(0, 1, 2, 3)}, {row(0, 0, 0, 0, 0, 0, 0, 0), nil},
		// Districts that are connected only by a way back and forth.
		{border.Map{Old: list(5), New: 1, Streets: slices.Repeat(streets(street(0, 0, 1, 0, 5)), 6), Joins: joins(join(0, 5), join(1, 4), join(5, 1), join(3, 4), join(2, 3))}, nil},
		{border.Map{Old: list(5), New: 1, Streets: slices.Repeat(streets(street(0, 0, 1, 0, 5)), 6), Joins: joins(join(0, 5), join(1, 4), join(5, 0), join(3, 4), join(2, 3))}, list(0)},
		{border.Map{Old: list(5), New: 1, Streets: slices.Repeat(streets(street(0, 0, 1, 0, 5)), 4), Joins: joins(join(0, 3), join(1, 3), join(2, 3))}, nil},
	} {
		if l, e := border.Apart(x.m); !slices.Equal(l, x.want) || e != api.OK {
			t.Errorf("Apart of %v: %v, %v, not %v", x.m, l, e, x.want)
		}
	}
}

// P11.4: a district is connected if there are ways between all its streets.
func TestApartByDefinition(t *testing.T) {
	apart, whole := 0, 0
	forMaps(t, 8000, func(t *testing.T, d *dice, m border.Map) {
		if d.upTo(3) == 0 {
			m = changed(m, func(m *border.Map) { m.Old[0] = d.upTo(10000) })
		}
		want := apartOf(m)
		if l, e := border.Apart(m); !slices.Equal(l, want) || e != api.OK {
			t.Errorf("Apart of %v: %v, %v, not %v", m, l, e, want)
		}
		if len(m.Streets) > 2*m.New {
			apart += len(want)
			whole += m.New - len(want)
		}
	})
	if apart < 1500 || whole < 1500 {
		t.Errorf("only %d districts are apart, %d are connected", apart, whole)
	}
}

// rightIn reports whether the borders are right: the sizes in all truths are looked at.
func rightIn(m border.Map, truths [][]int, borders []int, limits border.Range) bool {
	m = within(m, borders)
	for _, people := range truths {
		for _, n := range sizesOf(m, people) {
			if !inRange(limits, n) {
				return false
			}
		}
	}
	return len(truths) > 0 && len(apartOf(m)) == 0
}

// P11.5: of a small map all borders are tried, and for each of them all truths.
func TestBordersByDefinition(t *testing.T) {
	d := dice(4)
	proved, moving, none := 0, 0, 0
	for range 1500 {
		m := d.anySmall()
		truths := truthsOf(m)
		limits := to(0, 40000)
		if len(truths) > 0 {
			limits = d.limits(m)
		}
		var want []int
		fewest := 0
		forBorders(m, func(borders []int) {
			right, n := rightIn(m, truths, borders, limits), movedBy(m, borders)
			if right && (want == nil || n < fewest) {
				want, fewest = slices.Clone(borders), n
			}
			if border.ProveBorders(m, borders, limits, n) != right || border.ProveBorders(m, borders, limits, 8) != right || border.ProveBorders(m, borders, limits, n-1) {
				t.Fatalf("ProveBorders of %v, %v within %v: %v", m, borders, limits, !right)
			}
			if right {
				proved++
			}
		})
		l, moved, e := border.Best(m, limits)
		due := api.OK
		if len(truths) == 0 {
			due = api.ErrFail
		} else if want == nil {
			due = api.ErrNone
			none++
		}
		if !slices.Equal(l, want) || moved != fewest || e != due {
			t.Fatalf("Best of %v within %v: %v, %d, %v, not %v, %d, %v", m, limits, l, moved, e, want, fewest, due)
		}
		if moved > 0 {
			moving++
		}
	}
	if proved < 5000 || moving < 150 || none < 500 {
		t.Errorf("only %d right borders, %d best ones that move streets, %d maps without any", proved, moving, none)
	}
}

// P11.5: borders of which the fewest moved streets, or the smallest list of several, decide.
func TestBest(t *testing.T) {
	for _, x := range []struct {
		m      border.Map
		limits border.Range
		want   []int
		moved  int
	}{
		{town(), to(60, 100), list(0, 0, 1, 1), 2},
		{town(), to(0, 110), list(0, 1, 1, 1), 1},
		{town(), to(0, 109), list(0, 0, 1, 1), 2},
		{town(), to(51, 40000), list(0, 0, 1, 1), 2},
		{town(), to(50, 40000), list(0, 1, 1, 1), 1},
		{townOf(100, 60, 1), to(160, 160), list(0, 0, 0, 0), 0},
		{townOf(100, 60, 4), to(0, 70), list(0, 1, 2, 3), 2},
		{row(0), to(10, 10), list(0), 0},
		{row(0, 1), to(10, 10), list(0, 1), 0},
		{row(1, 0), to(10, 10), list(1, 0), 0},
		{row(1, 1), to(0, 20), list(0, 1), 1},
		{row(1, 1, 1), to(0, 30), list(0, 1, 1), 1},
		{row(1, 1, 1), to(20, 30), nil, 0},
		{row(0, 1, 0), to(0, 30), list(0, 1, 1), 1},
		{row(0, 1, 0), to(0, 20), list(0, 1, 1), 1},
		{row(0, 1, 0, 1), to(0, 40), list(0, 0, 0, 1), 1},
		{row(1, 0, 1, 0), to(20, 20), list(0, 0, 1, 1), 2},
		{row(0, 1, 0, 1), to(20, 20), list(0, 0, 1, 1), 2},
		{row(0, 0, 0, 1), to(20, 20), list(0, 0, 1, 1), 1},
		{row(2, 1, 0, 2, 1, 0), to(20, 20), list(1, 1, 2, 2, 0, 0), 3},
		{ring(0, 0, 1, 2, 2, 1), to(20, 20), list(0, 0, 1, 1, 2, 2), 2},
		{ring(0, 0, 1, 2, 2, 1), to(10, 30), list(0, 0, 0, 2, 2, 1), 1},
		{ring(0, 0, 0, 0, 1, 1), to(10, 30), list(0, 0, 0, 1, 1, 1), 1},
		{changed(ring(0, 0, 0, 0, 1, 1), func(m *border.Map) { m.New = 3 }), to(10, 30), list(0, 0, 0, 2, 1, 1), 1},
		{ring(0, 1, 2, 3, 0, 1, 2, 3), to(20, 20), list(0, 0, 2, 2, 1, 1, 3, 3), 4},
		{changed(ring(0, 1, 0, 1), func(m *border.Map) { m.Joins = append(m.Joins, join(0, 2), join(1, 3)) }), to(20, 20), list(0, 1, 0, 1), 0},
		{greatest(), to(0, 40000), list(0, 0, 1, 1, 2, 2, 3, 3), 0},
	} {
		l, moved, found := best(t, x.m, x.limits)
		if !slices.Equal(l, x.want) || moved != x.moved || found != (x.want != nil) {
			t.Errorf("Best of %v within %v: %v, %d, not %v, %d", x.m, x.limits, l, moved, x.want, x.moved)
		}
	}
}

// P11.5: borders that are right, and some that are not.
func TestProveBorders(t *testing.T) {
	for _, x := range []struct {
		borders []int
		limits  border.Range
		most    int
		want    bool
	}{
		{list(0, 1, 1, 1), to(50, 110), 1, true},
		{list(0, 1, 1, 1), to(50, 110), 4, true},
		{list(0, 1, 1, 1), to(50, 110), 0, false},
		{list(0, 1, 1, 1), to(51, 110), 1, false},
		{list(0, 1, 1, 1), to(50, 109), 1, false},
		{list(1, 0, 0, 0), to(50, 110), 3, true},
		{list(1, 0, 0, 0), to(50, 110), 2, false},
		{list(0, 0, 1, 1), to(60, 100), 2, true},
		{list(0, 0, 1, 1), to(60, 99), 2, false},
		{list(0, 0, 1, 1), to(61, 100), 2, false},
		{list(1, 1, 0, 0), to(60, 100), 2, true},
		{list(1, 1, 0, 0), to(60, 100), 1, false},
		{list(0, 0, 0, 1), to(0, 160), 3, true},
		{list(0, 0, 0, 1), to(0, 160), 2, false},
		{list(0, 0, 0, 0), to(0, 160), 4, false},
		{list(1, 1, 1, 1), to(0, 40000), 4, false},
		{list(0, 1, 1, 0), to(0, 40000), 4, false},
		{list(0, 1, 0, 1), to(0, 40000), 4, false},
	} {
		if border.ProveBorders(town(), x.borders, x.limits, x.most) != x.want {
			t.Errorf("ProveBorders of %v within %v with at most %d moved: %v", x.borders, x.limits, x.most, !x.want)
		}
	}
}

// P11.5: as many streets, districts and joins as there can be.
func TestGreatest(t *testing.T) {
	d := dice(5)
	maps := []border.Map{greatest(), changed(greatest(), func(m *border.Map) {
		for i := range m.Streets {
			m.Streets[i].People = to(5000, 5000)
			m.Streets[i].New = (i * 3) % 4
		}
	})}
	for range 4 {
		m := d.throw(8, 1250, 100)
		m.New = 4
		maps = append(maps, m)
	}
	found := 0
	for _, m := range maps {
		limits := to(sumOf(m.Old)/8, sumOf(m.Old)/3)
		want, fewest := bestOf(m, limits)
		l, moved, is := best(t, m, limits)
		if !slices.Equal(l, want) || moved != fewest || is != (want != nil) {
			t.Errorf("Best of %v within %v: %v, %d, not %v, %d", m, limits, l, moved, want, fewest)
		}
		if moved > 1 {
			found++
		}
	}
	if found < 3 {
		t.Errorf("only %d maps with borders that move streets", found)
	}
}
