package flow_test

import (
	"slices"
	"testing"

	"tithing/api"
	"tithing/flow"
)

// P7.1: tables that are valid, at their limits.
func TestCheckTable(t *testing.T) {
	d := dice(2)
	l := fixedTables()
	for range 100 {
		l = append(l, d.throwTable(d.throwShape()))
	}
	for _, x := range l {
		if e := flow.CheckTable(x); e != api.OK {
			t.Errorf("CheckTable of %v: %v", x, e)
		}
	}
}

// P7.1: the sizes of a truth, and whether it can be.
func TestPlay(t *testing.T) {
	for what, x := range map[string]struct {
		change func(x *flow.Truth)
		want   []int
		can    bool
	}{
		"as it is":            {func(x *flow.Truth) {}, list(95, 92, 110), true},
		"the fewest dead":     {func(x *flow.Truth) { x.Dead[0] = list(17, 2, 4, 13) }, list(98, 93, 113), true},
		"the most dead":       {func(x *flow.Truth) { x.Dead[0] = list(23, 4, 6, 18) }, list(92, 91, 106), true},
		"a birth more":        {func(x *flow.Truth) { x.Births[0] = 116 }, list(96, 92, 110), true},
		"more moved":          {func(x *flow.Truth) { x.Moved[0][1] = 5 }, list(95, 102, 110), true},
		"others are the last": {func(x *flow.Truth) { x.First[2], x.Dead[0][3] = 500, 150 }, list(95, 92, 430), true},
		"nobody at first":     {func(x *flow.Truth) { x.First, x.Dead[0], x.Moved[0][1] = list(0, 0, 0), list(20, 0, 0, 0), 0 }, list(95, 0, 0), true},
		"all are the first":   {func(x *flow.Truth) { x.First, x.Dead[0] = list(500, 0, 0), list(20, 10, 0, 0) }, list(95, 485, 0), true},

		"too few births die":   {func(x *flow.Truth) { x.Dead[0][0] = 16 }, list(99, 92, 110), false},
		"too many births die":  {func(x *flow.Truth) { x.Dead[0][0] = 24 }, list(91, 92, 110), false},
		"too few die":          {func(x *flow.Truth) { x.Dead[0][1] = 1 }, list(95, 94, 110), false},
		"too many die":         {func(x *flow.Truth) { x.Dead[0][1] = 5 }, list(95, 90, 110), false},
		"too few others die":   {func(x *flow.Truth) { x.Dead[0][2] = 3 }, list(95, 92, 112), false},
		"too many others die":  {func(x *flow.Truth) { x.Dead[0][2] = 7 }, list(95, 92, 108), false},
		"too few of the last":  {func(x *flow.Truth) { x.Dead[0][3] = 12 }, list(95, 92, 113), false},
		"too many of the last": {func(x *flow.Truth) { x.Dead[0][3] = 19 }, list(95, 92, 106), false},
		"fewer than none die":  {func(x *flow.Truth) { x.Dead[0][3] = -1 }, list(95, 92, 126), false},
		"a size below 0":       {func(x *flow.Truth) { x.First[0], x.Dead[0][1] = 0, 0 }, list(95, -5, 110), false},
	} {
		y := story()
		x.change(&y)
		sizes, can, e := flow.Play(example(), y)
		if !same(sizes, [][]int{y.First, x.want}) || can != x.can || e != api.OK {
			t.Errorf("Play, %s: %v, %v, %v; not %v, %v", what, sizes, can, e, x.want, x.can)
		}
	}
}

// P7.1: dead who are rounded, of 100 persons of whom 20 to 40 in 1000 die, and of others.
func TestRoundedDead(t *testing.T) {
	for _, x := range []struct {
		n    int
		rate flow.Range
		want flow.Range
	}{
		{100, to(20, 40), to(2, 4)}, {99, to(20, 40), to(1, 4)}, {101, to(20, 40), to(2, 5)}, {1, to(0, 1), to(0, 1)}, {1, to(999, 999), to(0, 1)}, {1, to(1000, 1000), to(1, 1)}, {1, to(0, 0), to(0, 0)}, {0, to(0, 1000), to(0, 0)}, {500, to(1, 1), to(0, 1)}, {500, to(2, 2), to(1, 1)}, {500, to(998, 999), to(499, 500)}, {500, to(0, 1000), to(0, 500)}, {333, to(333, 334), to(110, 112)},
	} {
		y := quiet(row(to(0, 0)), row(to(0, 500), to(0, 500)), row(to(0, 500), to(0, 500)))
		y.Rates[1] = x.rate
		for died := range 502 {
			z := flow.Truth{First: list(x.n, 0), Births: list(0), Dead: [][]int{{0, died, 0}}, Moved: [][]int{{0, 0}}}
			sizes, can, e := flow.Play(y, z)
			if can != isIn(x.want, died) || e != api.OK || !same(sizes, [][]int{{x.n, 0}, {0, x.n - died}}) {
				t.Errorf("Play, %d of %d by %v die: %v, %v, %v", died, x.n, x.rate, sizes, can, e)
			}
		}
		if r, e := flow.Would(with(y, cell(0, 0), to(x.n, x.n)), cell(1, 1)); r != to(x.n-x.want.Hi, x.n-x.want.Lo+500) || e != api.OK {
			t.Errorf("Would of %d by %v: %v, %v", x.n, x.rate, r, e)
		}
	}
}

// P7.1: a size below 0, and dead who cannot be, are found at any census.
func TestPlayOfFourCensuses(t *testing.T) {
	wide := row(to(0, 500), to(0, 500))
	y := quiet(row(to(0, 9), to(0, 9), to(0, 9)), wide, wide, wide, wide)
	y.Net[0], y.Rates[2] = to(-6, 6), to(0, 500)
	truth := func() flow.Truth {
		return flow.Truth{First: list(4, 5), Births: list(6, 7, 8), Dead: [][]int{{0, 0, 1}, {0, 0, 2}, {0, 0, 3}}, Moved: [][]int{{1, 0}, {-2, 0}, {3, 0}}}
	}
	for _, x := range []struct {
		change func(x *flow.Truth)
		want   [][]int
		can    bool
	}{
		{func(x *flow.Truth) {}, [][]int{{4, 5}, {7, 8}, {5, 13}, {11, 15}}, true},
		{func(x *flow.Truth) { x.Births[0], x.Moved[0][0] = 1, -3 }, [][]int{{4, 5}, {-2, 8}, {5, 4}, {11, 6}}, false},
		{func(x *flow.Truth) { x.Births[1], x.Moved[1][0] = 1, -3 }, [][]int{{4, 5}, {7, 8}, {-2, 13}, {11, 8}}, false},
		{func(x *flow.Truth) { x.Births[2], x.Moved[2][0] = 1, -3 }, [][]int{{4, 5}, {7, 8}, {5, 13}, {-2, 15}}, false},
		{func(x *flow.Truth) { x.Births[2], x.Moved[2][0] = 1, -1 }, [][]int{{4, 5}, {7, 8}, {5, 13}, {0, 15}}, true},
		{func(x *flow.Truth) { x.Dead[0][2] = 4 }, [][]int{{4, 5}, {7, 5}, {5, 10}, {11, 12}}, false},
		{func(x *flow.Truth) { x.Dead[1][2] = 5 }, [][]int{{4, 5}, {7, 8}, {5, 10}, {11, 12}}, false},
		{func(x *flow.Truth) { x.Dead[2][2] = 7 }, [][]int{{4, 5}, {7, 8}, {5, 13}, {11, 11}}, true},
		{func(x *flow.Truth) { x.Dead[2][2] = 8 }, [][]int{{4, 5}, {7, 8}, {5, 13}, {11, 10}}, false},
	} {
		z := truth()
		x.change(&z)
		if sizes, can, e := flow.Play(y, z); !same(sizes, x.want) || can != x.can || e != api.OK {
			t.Errorf("Play of %v: %v, %v, %v; not %v, %v", z, sizes, can, e, x.want, x.can)
		}
		if flow.ProveTruth(y, z) != x.can {
			t.Errorf("ProveTruth of %v: %v", z, !x.can)
		}
	}
}

// P7.1: truths that agree, and others.
func TestProveTruth(t *testing.T) {
	for c, size := range map[flow.Cell]int{cell(0, 0): 100, cell(0, 1): 85, cell(0, 2): 45, cell(1, 0): 95, cell(1, 1): 92, cell(1, 2): 110} {
		for _, x := range []struct {
			count flow.Range
			want  bool
		}{{to(size, size), true}, {to(0, size), true}, {to(size, 500), true}, {to(0, size-1), false}, {to(size+1, 500), false}} {
			if got := flow.ProveTruth(with(example(), c, x.count), story()); got != x.want {
				t.Errorf("ProveTruth with %v of %v: %v", x.count, c, got)
			}
		}
	}
	cannot := story()
	cannot.Dead[0][1] = 1
	if flow.ProveTruth(example(), cannot) {
		t.Error("ProveTruth of a truth that cannot be")
	}
}

// P7.1: truths of all kinds of tables.
func TestPlayOfThrownTruths(t *testing.T) {
	d := dice(3)
	count := map[bool]int{}
	for range 500 {
		y, x := d.throwTruth(d.throwShape())
		sizes, can, e := flow.Play(y, x)
		if !same(sizes, sizesOf(x)) || !can || e != api.OK || !flow.ProveTruth(y, x) {
			t.Fatalf("Play of %v, %v: %v, %v, %v", y, x, sizes, can, e)
		}
		c := cellsOf(y)[d.upTo(len(cellsOf(y))-1)]
		other := with(y, c, d.part(to(0, 500)))
		agrees := isIn(countOf(other, c), sizes[c.Census][c.Group])
		if flow.ProveTruth(other, x) != agrees {
			t.Fatalf("ProveTruth of %v, %v: %v", other, x, !agrees)
		}
		count[agrees]++
	}
	if count[true] < 30 || count[false] < 100 {
		t.Errorf("only so many truths agree, or not: %v", count)
	}
}

// P7.2, P7.5: the chapter's examples, and other tables.
func TestBounds(t *testing.T) {
	first := row(to(100, 100), to(80, 90), to(40, 50))
	l := fixedTables()
	for _, x := range []struct {
		t     flow.Table
		want  [][]flow.Range
		leave []flow.Cell
	}{
		{example(), rows(first, row(to(88, 102), to(91, 97), to(100, 115))), nil},
		{contradicting(), nil, cells(cell(1, 0))},
		{with(example(), cell(1, 0), to(102, 500)), rows(first, row(to(102, 102), to(91, 97), to(100, 115))), nil},
		{with(example(), cell(1, 0), to(103, 500)), nil, cells(cell(1, 0))},
		{with(example(), cell(1, 2), to(0, 100)), rows(row(to(100, 100), to(80, 81), to(40, 43)), row(to(88, 102), to(91, 97), to(99, 100))), nil},
		{with(example(), cell(1, 2), to(0, 98)), nil, cells(cell(0, 1))},
		{l[4], rows(row(to(0, 500), to(0, 500)), row(to(0, 0), to(2, 3))), nil},
		{l[5], nil, cells(cell(1, 0))},
		{l[6], rows(row(to(10, 12), to(21, 30)), row(to(6, 7), to(33, 41)), row(to(1, 2), to(40, 47))), nil},
		{l[7], nil, cells(cell(1, 0))},
		{l[8], nil, cells(cell(0, 0), cell(1, 0))},
		{l[9], nil, cells(cell(0, 0))},
		{quiet(nil, row(to(3, 5), to(0, 500))), rows(row(to(3, 5), to(0, 500))), nil},
	} {
		b, e := flow.Bounds(x.t)
		if !same(b, x.want) || (e == api.OK) != (len(x.leave) == 0) || e != api.OK && e != api.ErrFail {
			t.Errorf("Bounds of %v: %v, %v", x.t, b, e)
		}
		if l, e := flow.Leave(x.t); !slices.Equal(l, x.leave) || e != api.OK {
			t.Errorf("Leave of %v: %v, %v", x.t, l, e)
		}
	}
}

// P7.2: bounds of tables with few truths, all of which are tried.
func TestBoundsOfAllTruths(t *testing.T) {
	d := dice(4)
	count := map[bool]int{}
	for range 250 {
		x := d.throwTable(shape{d.from(1, 3), d.from(2, 3), d.from(1, 20), d.upTo(2)})
		all := histories(x, byCounts(x))
		b, agree := boundsOf(t, x)
		if agree != (len(all[0]) > 0) {
			t.Fatalf("Bounds of %v: %v; %d truths", x, b, len(all[0]))
		}
		count[agree]++
		for census := range b {
			if want := endsOf(x, all[census]); !slices.Equal(b[census], want) {
				t.Fatalf("Bounds of %v: %v at the census %d, not %v", x, b[census], census, want)
			}
		}
	}
	if count[true] < 100 || count[false] < 20 {
		t.Errorf("only so many tables agree, or not: %v", count)
	}
}

// checkRange checks that some truth has each end of the range in the cell, but none a number beyond it.
func checkRange(t *testing.T, d *dice, x flow.Table, c flow.Cell, r flow.Range, a allowed) {
	t.Helper()
	for _, n := range list(r.Lo, r.Hi, d.from(r.Lo, r.Hi)) {
		if !canBe(x, a.only(c, n)) {
			t.Errorf("%v of %v: %v, but not %d", c, x, r, n)
		}
	}
	for _, n := range list(r.Lo-1, r.Hi+1, r.Lo-2, r.Hi+2, d.upTo(500), d.upTo(3000)) {
		if n >= 0 && !isIn(r, n) && canBe(x, a.only(c, n)) {
			t.Errorf("%v of %v: %v, but also %d", c, x, r, n)
		}
	}
}

// P7.2, P7.3: bounds and ranges of all kinds of tables: each end can be, and what is beyond cannot.
func TestEnds(t *testing.T) {
	count := map[bool]int{}
	forTables(t, 60, func(t *testing.T, d *dice, x flow.Table) {
		b, agree := boundsOf(t, x)
		if agree != canBe(x, byCounts(x)) {
			t.Errorf("Bounds of %v: %v", x, b)
		}
		l := cellsOf(x)
		for range 3 {
			c := l[d.upTo(len(l)-1)]
			if agree {
				checkRange(t, d, x, c, b[c.Census][c.Group], byCounts(x))
			}
			r, others := wouldOf(t, x, c)
			if others != canBe(x, byCounts(x, c)) {
				t.Errorf("Would of %v, %v: %v, %v", x, c, r, others)
			}
			if others {
				checkRange(t, d, x, c, r, byCounts(x, c))
			}
			count[others]++
		}
	})
	if count[true] < 100 || count[false] < 20 {
		t.Errorf("only so many cells have others that agree, or not: %v", count)
	}
}

// P7.3: the chapter's examples, and other cells; without their counts sizes can be greater than a count.
func TestWould(t *testing.T) {
	l := fixedTables()
	for _, x := range []struct {
		t    flow.Table
		c    flow.Cell
		want flow.Range
		e    api.Errno
	}{
		{example(), cell(1, 2), to(99, 121), api.OK}, {example(), cell(1, 0), to(88, 102), api.OK}, {example(), cell(0, 2), to(19, 68), api.OK},
		{example(), cell(1, 1), to(91, 103), api.OK}, {example(), cell(0, 0), to(86, 107), api.OK}, {contradicting(), cell(1, 0), to(88, 102), api.OK},
		{contradicting(), cell(0, 0), to(0, 0), api.ErrFail}, {contradicting(), cell(1, 2), to(0, 0), api.ErrFail}, {impossible(), cell(1, 0), to(0, 0), api.ErrFail},
		{l[3], cell(0, 0), to(0, 500), api.OK}, {l[3], cell(1, 0), to(0, 550), api.OK}, {l[3], cell(1, 3), to(0, 1050), api.OK}, {l[3], cell(3, 3), to(0, 1050), api.OK}, {l[3], cell(2, 3), to(0, 1050), api.OK},
		{l[6], cell(0, 1), to(21, 31), api.OK}, {l[11], cell(0, 1), to(0, 500), api.OK}, {l[11], cell(3, 1), to(0, 1000), api.OK}, {l[11], cell(0, 0), to(0, 500), api.OK},
		{l[8], cell(0, 0), to(0, 0), api.ErrFail}, {l[8], cell(1, 0), to(0, 0), api.ErrFail}, {l[8], cell(2, 1), to(0, 0), api.ErrFail},
		{quiet(nil, row(to(3, 5), to(7, 7))), cell(0, 0), to(0, 500), api.OK},
	} {
		if r, e := flow.Would(x.t, x.c); r != x.want || e != x.e {
			t.Errorf("Would of %v, %v: %v, %v; not %v, %v", x.t, x.c, r, e, x.want, x.e)
		}
	}
}

// P7.4: the chapter's example, and groups that can have no size.
func TestProject(t *testing.T) {
	leaving := quiet(nil, row(to(10, 20), to(5, 5)))
	leaving.Net = row(to(-30, -12), to(-20, -18))
	for _, x := range []struct {
		t      flow.Table
		births flow.Range
		want   []flow.Range
		e      api.Errno
	}{
		{example(), to(0, 50), row(to(0, 43), to(79, 105), to(145, 174)), api.OK}, {example(), to(10, 10), row(to(8, 9), to(79, 105), to(145, 174)), api.OK}, {example(), to(0, 0), row(to(0, 0), to(79, 105), to(145, 174)), api.OK}, {example(), to(500, 500), row(to(400, 425), to(79, 105), to(145, 174)), api.OK},
		{contradicting(), to(0, 50), nil, api.ErrFail}, {impossible(), to(0, 500), nil, api.ErrFail},
		{leaving, to(0, 14), row(to(0, 2), to(0, 7)), api.OK}, {leaving, to(0, 12), row(to(0, 0), to(0, 7)), api.OK}, {leaving, to(0, 11), nil, api.ErrFail}, {leaving, to(40, 44), row(to(10, 32), to(0, 7)), api.OK},
		{with(leaving, cell(0, 0), to(10, 13)), to(40, 44), row(to(10, 32), to(0, 0)), api.OK}, {with(leaving, cell(0, 0), to(10, 12)), to(40, 44), nil, api.ErrFail},
		{fixedTables()[3], to(0, 500), row(to(0, 550), to(0, 550), to(0, 550), to(0, 1050)), api.OK},
	} {
		if l, e := flow.Project(x.t, x.births); !slices.Equal(l, x.want) || e != x.e {
			t.Errorf("Project of %v, %v: %v, %v; not %v, %v", x.t, x.births, l, e, x.want, x.e)
		}
	}
}

// P7.4: further censuses of tables with few truths, all of which are tried.
func TestProjectOfAllTruths(t *testing.T) {
	d := dice(5)
	count := map[bool]int{}
	for range 250 {
		x := d.throwTable(shape{d.from(1, 3), d.from(2, 3), d.from(1, 20), d.upTo(1)})
		if d.upTo(1) == 0 {
			x.Net[d.upTo(len(x.Net)-1)] = d.part(to(-12, 0))
		}
		births := d.part(to(0, 20))
		all := histories(x, byCounts(x), births)
		last := all[len(x.Counted)]
		l, e := flow.Project(x, births)
		if len(last) == 0 && (len(l) != 0 || e != api.ErrFail) || len(last) > 0 && (!slices.Equal(l, endsOf(x, last)) || e != api.OK) {
			t.Fatalf("Project of %v, %v: %v, %v; %d at the further census", x, births, l, e, len(last))
		}
		count[len(last) > 0]++
	}
	if count[true] < 80 || count[false] < 30 {
		t.Errorf("only so many tables can be projected, or not: %v", count)
	}
}

// P7.5: smallest sets of all kinds of tables; all lists of cells are tried.
func TestLeave(t *testing.T) {
	count := [5]int{}
	check := func(t *testing.T, d *dice, x flow.Table) {
		if len(cellsOf(x)) > 9 {
			return
		}
		want, some := smallestOf(x)
		l, e := flow.Leave(x)
		if !slices.Equal(l, want) || some != (e == api.OK) || !some && e != api.ErrFail {
			t.Errorf("Leave of %v: %v, %v; not %v, %v", x, l, e, want, some)
		}
		if some {
			count[min(len(l), 4)]++
		}
	}
	forTables(t, 60, check)
	d := dice(6)
	for range 60 {
		x, _ := d.throwTruth(shape{d.from(2, 4), d.from(2, 3), list(6, 30, 200)[d.upTo(2)], d.upTo(3)})
		d.shift(&x, d.from(1, 12), 300)
		check(t, &d, x)
	}
	for many, tables := range count {
		if tables < 5 {
			t.Errorf("only %d tables have smallest sets of %d cells", tables, many)
		}
	}
}

// P7.5: of several shortest lists the one with the earlier cells.
func TestEarlierCells(t *testing.T) {
	wide := to(0, 500)
	for _, x := range []struct {
		t    flow.Table
		want []flow.Cell
	}{
		{quiet(row(wide), row(to(3, 3), to(4, 4)), row(wide, to(9, 9))), cells(cell(0, 0))},
		{quiet(row(wide), row(to(3, 3), to(4, 4)), row(wide, to(5, 5))), cells(cell(0, 0))},
		{quiet(row(wide), row(to(3, 3), to(4, 4)), row(wide, to(3, 3))), cells(cell(0, 1))},
		{quiet(row(wide), row(to(3, 3), to(4, 4)), row(wide, to(2, 2))), cells(cell(1, 1))},
		{quiet(row(wide), row(to(5, 5), to(4, 4)), row(wide, to(3, 3))), cells(cell(1, 1))},
		{quiet(row(wide), row(to(5, 5), to(2, 2)), row(wide, to(3, 3))), cells(cell(0, 0))},
		{quiet(row(wide), row(to(2, 2), to(5, 5)), row(wide, to(3, 3))), cells(cell(0, 1))},
		{quiet(row(to(5, 5)), row(wide, wide), row(to(4, 4), wide)), cells(cell(1, 0))},
		{quiet(row(to(5, 5)), row(to(2, 2), to(5, 5)), row(to(4, 4), to(3, 3))), cells(cell(0, 1), cell(1, 0))},
		{quiet(row(to(5, 5), to(5, 5)), row(to(2, 2), to(0, 0)), row(to(4, 4), to(2, 2)), row(to(6, 6), to(6, 6))), cells(cell(1, 0), cell(2, 0), cell(2, 1))},
	} {
		if l, e := flow.Leave(x.t); !slices.Equal(l, x.want) || e != api.OK {
			t.Errorf("Leave of %v: %v, %v; not %v", x.t, l, e, x.want)
		}
	}
}

// P7.5: of the greatest table all cells have to be left out but those of its first census; if half of all die, the last group at the next one is the sum of two halves.
func TestLeaveMany(t *testing.T) {
	wrong := slices.Repeat(row(to(500, 500)), 4)
	x := flow.Table{Counted: rows(wrong, wrong, wrong, wrong), Births: slices.Repeat(row(to(400, 400)), 3), Rates: slices.Repeat(row(to(500, 500)), 5), Net: make([]flow.Range, 4)}
	l, e := flow.Leave(x)
	if !slices.Equal(l, slices.Concat(cellsOf(x)[4:7], cellsOf(x)[8:])) || e != api.OK {
		t.Errorf("Leave of %v: %v, %v", x, l, e)
	}
	x = flow.Table{Counted: rows(wrong, wrong, wrong, wrong), Births: make([]flow.Range, 3), Rates: slices.Repeat(row(to(1000, 1000)), 5), Net: make([]flow.Range, 4)}
	if l, e := flow.Leave(x); !slices.Equal(l, cellsOf(x)[4:]) || e != api.OK {
		t.Errorf("Leave of %v: %v, %v", x, l, e)
	}
}

// P7.5: no count can be used, as each contradicts what is known without any.
func TestLeaveAll(t *testing.T) {
	low, high := row(to(0, 5), to(0, 5)), row(to(400, 400), to(400, 400))
	// 500 persons leave at most 30, and 50 have to move.
	x := flow.Table{Counted: rows(low, high), Births: row(to(5, 5)), Rates: row(to(0, 0), to(940, 940), to(940, 940)), Net: row(to(0, 0), to(-50, -50))}
	for _, c := range cellsOf(x) {
		if others := slices.DeleteFunc(cellsOf(x), func(other flow.Cell) bool { return other == c }); canBe(x, byCounts(x, others...)) {
			t.Errorf("the count of %v can be used", c)
		}
	}
	if l, e := flow.Leave(x); !slices.Equal(l, cellsOf(x)) || e != api.OK {
		t.Errorf("Leave of %v: %v, %v", x, l, e)
	}
	if l, e := flow.Leave(quiet(row(to(5, 5)), row(to(0, 500), to(0, 500)), high)); !slices.Equal(l, cells(cell(1, 0))) || e != api.OK {
		t.Errorf("Leave: %v, %v", l, e)
	}
}

// P7.5: the tables whose counts do not agree.
func TestFail(t *testing.T) {
	for _, x := range []struct {
		l    []flow.Table
		want []int
	}{
		{nil, nil}, {tables(example()), nil}, {tables(contradicting()), list(0)}, {tables(impossible()), list(0)}, {tables(contradicting(), example(), impossible()), list(0, 2)}, {tables(example(), contradicting(), contradicting(), example()), list(1, 2)},
		{slices.Repeat(tables(contradicting()), 10), list(0, 1, 2, 3, 4, 5, 6, 7, 8, 9)}, {slices.Repeat(tables(example()), 10), nil},
	} {
		if l, e := flow.Fail(x.l); !slices.Equal(l, x.want) || e != api.OK {
			t.Errorf("Fail of %v: %v, %v; not %v", x.l, l, e, x.want)
		}
	}
}
