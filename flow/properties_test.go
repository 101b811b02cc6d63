package flow_test

import (
	"slices"
	"testing"

	"tithing/api"
	"tithing/flow"
)

// further adds a census to the truth, and so many births and counts to the table.
func further(t *testing.T, d *dice, x flow.Table, y flow.Truth, births flow.Range) (flow.Truth, bool) {
	t.Helper()
	x.Births = append(slices.Clone(x.Births), births)
	z := flow.Truth{First: y.First, Births: append(slices.Clone(y.Births), d.of(numbers(births)))}
	all := sizesOf(y)
	last := flow.Truth{First: all[len(all)-1], Births: z.Births[len(z.Births)-1:]}
	if !d.tell(x, &last) {
		return z, false
	}
	z.Dead, z.Moved = append(slices.Clone(y.Dead), last.Dead...), append(slices.Clone(y.Moved), last.Moved...)
	return z, true
}

// P7.6: the sizes of truths that can be and agree are in what is returned.
func TestWhateverHappened(t *testing.T) {
	d := dice(7)
	some := 0
	for range 400 {
		x, y := d.throwTruth(d.throwShape())
		b, agree := boundsOf(t, x)
		for census, sizes := range sizesOf(y) {
			for group, n := range sizes {
				r, others := wouldOf(t, x, cell(census, group))
				if !agree || !others || !isIn(b[census][group], n) || !isIn(r, n) {
					t.Fatalf("%v: %v of %d, %d, not in %v, %v", x, n, census, group, b, r)
				}
			}
		}
		births := d.part(to(0, 100))
		z, is := further(t, &d, x, y, births)
		if !is {
			continue
		}
		some++
		l, e := flow.Project(x, births)
		last := sizesOf(z)[len(x.Counted)]
		for group, n := range last {
			if e != api.OK || !isIn(l[group], n) {
				t.Fatalf("Project of %v, %v: %v, %v; not %v", x, births, l, e, last)
			}
		}
	}
	if some < 100 {
		t.Errorf("only %d truths have a further census", some)
	}
}

func agrees(t *testing.T, x flow.Table) bool {
	t.Helper()
	_, agree := boundsOf(t, x)
	return agree
}

// P7.7: a count is replaced by an end of its bounds, or by a number beyond them.
func TestReplacedCounts(t *testing.T) {
	beyond := 0
	forTables(t, 300, func(t *testing.T, d *dice, x flow.Table) {
		b, agree := boundsOf(t, x)
		if !agree {
			return
		}
		for _, c := range cellsOf(x) {
			r, count := b[c.Census][c.Group], countOf(x, c)
			if !within(r, count) {
				t.Errorf("Bounds of %v: %v of %v", x, r, c)
			}
			for _, n := range list(r.Lo, r.Hi) {
				if !agrees(t, with(x, c, to(n, n))) {
					t.Errorf("Bounds of %v: %v of %v, but not %d", x, r, c, n)
				}
			}
			for _, other := range row(to(count.Lo, r.Lo-1), to(r.Hi+1, count.Hi)) {
				if other.Lo > other.Hi {
					continue
				}
				beyond++
				n := d.of(numbers(other))
				for _, n := range list(other.Lo, other.Hi, n) {
					if agrees(t, with(x, c, to(n, n))) {
						t.Errorf("Bounds of %v: %v of %v, but also %d", x, r, c, n)
					}
				}
			}
		}
	})
	if beyond < 300 {
		t.Errorf("only %d counts have numbers beyond their bounds", beyond)
	}
}

// P7.8: what the range of Would and the count of the cell have in common.
func TestWouldAndCount(t *testing.T) {
	count := map[bool]int{}
	forTables(t, 300, func(t *testing.T, d *dice, x flow.Table) {
		b, agree := boundsOf(t, x)
		count[agree]++
		for _, c := range cellsOf(x) {
			r, others := wouldOf(t, x, c)
			common := to(max(r.Lo, countOf(x, c).Lo), min(r.Hi, countOf(x, c).Hi))
			if meet := others && common.Lo <= common.Hi; meet != agree || agree && b[c.Census][c.Group] != common {
				t.Errorf("Would of %v, %v: %v, %v; its bounds: %v, %v", x, c, r, others, b, agree)
			}
		}
	})
	if count[true] < 100 || count[false] < 30 {
		t.Errorf("only so many tables agree, or not: %v", count)
	}
}

// P7.9: without the smallest set the others agree; shorter lists are tried.
func TestLeftOut(t *testing.T) {
	count := map[int]int{}
	forTables(t, 80, func(t *testing.T, d *dice, x flow.Table) {
		l, e := flow.Leave(x)
		if e != api.OK {
			if e != api.ErrFail || canBe(x, byCounts(x, cellsOf(x)...)) {
				t.Errorf("Leave of %v: %v, %v", x, l, e)
			}
			return
		}
		count[len(l)]++
		if !canBe(x, byCounts(x, l...)) || agrees(t, x) != (len(l) == 0) {
			t.Errorf("Leave of %v: %v, but the others do not agree", x, l)
		}
		if len(l) == 0 {
			return
		}
		for range 20 {
			shorter := cellsOf(x)
			for len(shorter) >= len(l) {
				at := d.upTo(len(shorter) - 1)
				shorter = slices.Delete(shorter, at, at+1)
			}
			if canBe(x, byCounts(x, shorter...)) {
				t.Errorf("Leave of %v: %v, but also %v", x, l, shorter)
			}
		}
	})
	if count[0] < 30 || count[1] < 10 || count[2] < 3 {
		t.Errorf("only so many tables have smallest sets of so many cells: %v", count)
	}
}

// narrower makes some ranges of the table narrower.
func (d *dice) narrower(x flow.Table) flow.Table {
	x = copyOfTable(x)
	for _, l := range append(x.Counted, x.Births, x.Rates, x.Net) {
		for i, r := range l {
			if d.upTo(2) == 0 {
				l[i] = to(d.from(r.Lo, r.Lo+(r.Hi-r.Lo)/3), d.from(r.Hi-(r.Hi-r.Lo)/3, r.Hi))
			}
		}
	}
	return x
}

// P7.10: narrower ranges.
func TestNarrower(t *testing.T) {
	agreeing, left := 0, 0
	forTables(t, 900, func(t *testing.T, d *dice, x flow.Table) {
		y := d.narrower(x)
		b, agree := boundsOf(t, x)
		k, still := boundsOf(t, y)
		if still {
			agreeing++
			for census := range k {
				for group := range k[census] {
					if !agree || !within(k[census][group], b[census][group]) {
						t.Errorf("Bounds of %v: %v; with narrower ranges, of %v: %v", x, b, y, k)
					}
				}
			}
		}
		l, e := flow.Leave(x)
		m, e2 := flow.Leave(y)
		if e2 == api.OK && (e != api.OK || len(m) < len(l)) {
			t.Errorf("Leave of %v: %v, %v; with narrower ranges, of %v: %v, %v", x, l, e, y, m, e2)
		}
		if len(m) > len(l) {
			left++
		}
	})
	if agreeing < 100 || left < 20 {
		t.Errorf("only %d narrower tables agree, and of %d more cells are left out", agreeing, left)
	}
}

// P7.11: nobody dies and nobody moves.
func TestNoDeathsNoMoves(t *testing.T) {
	d := dice(8)
	ways := 0
	for range 400 {
		s := d.throwShape()
		x := flow.Table{Rates: make([]flow.Range, s.groups+1), Net: make([]flow.Range, s.groups)}
		y := flow.Truth{}
		for range s.groups {
			y.First = append(y.First, d.upTo(s.most/2))
		}
		for range s.censuses - 1 {
			b := d.upTo(s.most / 2)
			y.Births = append(y.Births, b)
			x.Births = append(x.Births, d.near(b, s.width, to(0, 500)))
		}
		if !d.tell(x, &y) {
			continue
		}
		d.count(&x, y, s.width)
		b, agree := boundsOf(t, x)
		if !agree {
			t.Fatalf("Bounds of %v: %v", x, b)
		}
		for census := 1; census < s.censuses; census++ {
			if young := b[census][0]; !within(young, x.Births[census-1]) {
				t.Fatalf("Bounds of %v: %v", x, b)
			}
			for group := 1; group < s.groups-1; group++ {
				ways++
				if b[census][group] != b[census-1][group-1] {
					t.Fatalf("Bounds of %v: %v; the group %d at the census %d was another one", x, b, group, census)
				}
			}
		}
	}
	if ways < 300 {
		t.Errorf("only %d groups come from others", ways)
	}
}

// P7.12: the further census is counted as Project returns.
func TestFurtherCensus(t *testing.T) {
	d := dice(9)
	count := 0
	for range 600 {
		x, _ := d.throwTruth(d.throwShape())
		for group, r := range x.Net {
			x.Net[group].Hi = max(0, r.Hi)
		}
		births := d.part(to(0, 200))
		b, agree := boundsOf(t, x)
		l, e := flow.Project(x, births)
		if !agree || e != api.OK {
			t.Fatalf("Project of %v, %v: %v, %v", x, births, l, e)
		}
		y := copyOfTable(x)
		y.Counted, y.Births = append(y.Counted, l), append(y.Births, births)
		if flow.CheckTable(y) != api.OK {
			continue
		}
		count++
		k, agree := boundsOf(t, y)
		if !agree || !same(k[:len(b)], b) || !slices.Equal(k[len(b)], l) {
			t.Fatalf("Bounds of %v: %v; with a further census: %v, %v", x, b, k, agree)
		}
	}
	if count < 200 {
		t.Errorf("only %d tables have a further census", count)
	}
}

// P7.13: Fail and Bounds; tables in any order.
func TestDistricts(t *testing.T) {
	d := dice(10)
	count := map[bool]int{}
	for range 60 {
		var l []flow.Table
		var failed []int
		for i := range d.upTo(10) {
			x := d.throwTable(d.throwShape())
			l = append(l, x)
			if !agrees(t, x) {
				failed = append(failed, i)
			}
			count[agrees(t, x)]++
		}
		got, e := flow.Fail(l)
		if !slices.Equal(got, failed) || e != api.OK {
			t.Fatalf("Fail of %v: %v, %v; not %v", l, got, e, failed)
		}
		slices.Reverse(l)
		got, e = flow.Fail(l)
		for i, n := range got {
			got[i] = len(l) - 1 - n
		}
		slices.Reverse(got)
		if !slices.Equal(got, failed) || e != api.OK {
			t.Fatalf("Fail of %v, from the last one: %v, %v; not %v", l, got, e, failed)
		}
	}
	if count[true] < 100 || count[false] < 20 {
		t.Errorf("only so many tables agree, or not: %v", count)
	}
}
