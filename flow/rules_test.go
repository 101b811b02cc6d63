package flow_test

import (
	"math"
	"slices"
	"testing"

	"tithing/api"
	"tithing/flow"
)

// roomy returns the list with free room behind it, which nobody may write to either.
func roomy[T any](list []T) []T { return slices.Grow(slices.Clone(list), 8) }

// whole returns the list with all the room behind it.
func whole[T any](list []T) []T { return slices.Clone(list[:cap(list)]) }

// deep changes a list of lists, and each of its lists.
func deep[T any](lists [][]T, change func([]T) []T, outer func([][]T) [][]T) [][]T {
	out := outer(lists)
	for i, l := range out {
		out[i] = change(l)
	}
	return out
}

// spoil writes to all the memory of the list, up to its capacity.
func spoil[T any](list []T, with T) {
	list = list[:cap(list)]
	for i := range list {
		list[i] = with
	}
}

func roomyTable(t flow.Table) flow.Table {
	return flow.Table{Counted: deep(t.Counted, roomy, roomy), Births: roomy(t.Births), Rates: roomy(t.Rates), Net: roomy(t.Net)}
}

func wholeTable(t flow.Table) [][]flow.Range {
	return append(deep(t.Counted, whole, whole), whole(t.Births), whole(t.Rates), whole(t.Net))
}

func wholeTruth(x flow.Truth) [][]int {
	return slices.Concat(deep(x.Dead, whole, whole), deep(x.Moved, whole, whole), [][]int{whole(x.First), whole(x.Births)})
}

// R4: arguments are not written to, not even behind their ends.
func TestArgumentsAreKept(t *testing.T) {
	for _, x := range fixedTables() {
		x = roomyTable(x)
		y := story()
		y = flow.Truth{First: roomy(y.First), Births: roomy(y.Births), Dead: deep(y.Dead, roomy, roomy), Moved: deep(y.Moved, roomy, roomy)}
		l := roomy(tables(x, example()))
		before, before2 := wholeTable(x), wholeTruth(y)
		flow.CheckTable(x)
		for _, call := range calls(x, y, cell(0, 0), to(0, 50)) {
			call()
		}
		flow.Fail(l)
		flow.ProveTruth(x, y)
		if !same(wholeTable(x), before) || !same(wholeTruth(y), before2) {
			t.Errorf("the arguments are changed: %v, %v", x, y)
		}
		if !same(wholeTable(l[0]), before) || !same(wholeTable(l[1]), wholeTable(example())) || l[:3][2].Counted != nil {
			t.Errorf("the list is changed: %v", l)
		}
	}
}

// R4: results are in memory of their own.
func TestMemory(t *testing.T) {
	x, y := example(), story()
	one := quiet(nil, row(to(3, 5), to(0, 500)))
	only := flow.Truth{First: list(4, 4)}
	wrong := with(contradicting(), cell(1, 2), to(0, 0))
	failing := tables(contradicting(), example(), contradicting())
	for range 3 {
		sizes, can, e := flow.Play(x, y)
		if !same(sizes, [][]int{{100, 85, 45}, {95, 92, 110}}) || !can || e != api.OK {
			t.Errorf("Play: %v, %v, %v", sizes, can, e)
		}
		spoil(sizes[0], -7)
		if !slices.Equal(sizes[1], list(95, 92, 110)) {
			t.Errorf("the sizes share memory: %v", sizes)
		}
		spoil(sizes[1], -7)
		sizes, _, e = flow.Play(one, only)
		if !same(sizes, [][]int{{4, 4}}) || e != api.OK {
			t.Errorf("Play: %v, %v", sizes, e)
		}
		spoil(sizes[0], -7)
		b, e := flow.Bounds(x)
		if !same(b, rows(row(to(100, 100), to(80, 90), to(40, 50)), row(to(88, 102), to(91, 97), to(100, 115)))) || e != api.OK {
			t.Errorf("Bounds: %v, %v", b, e)
		}
		spoil(b[0], to(-7, -7))
		if !slices.Equal(b[1], row(to(88, 102), to(91, 97), to(100, 115))) {
			t.Errorf("the bounds share memory: %v", b)
		}
		spoil(b[1], to(-7, -7))
		p, e := flow.Project(x, to(0, 50))
		if !slices.Equal(p, row(to(0, 43), to(79, 105), to(145, 174))) || e != api.OK {
			t.Errorf("Project: %v, %v", p, e)
		}
		spoil(p, to(-7, -7))
		l, e := flow.Leave(wrong)
		if !slices.Equal(l, cells(cell(1, 0), cell(1, 2))) || e != api.OK {
			t.Errorf("Leave: %v, %v", l, e)
		}
		spoil(l, cell(-7, -7))
		f, e := flow.Fail(failing)
		if !slices.Equal(f, list(0, 2)) || e != api.OK {
			t.Errorf("Fail: %v, %v", f, e)
		}
		spoil(f, -7)
	}
}

// R3: nil and a list without elements are the same.
func TestEmptyLists(t *testing.T) {
	x := quiet(nil, row(to(3, 5), to(0, 500)))
	empty := copyOfTable(x)
	empty.Births = []flow.Range{}
	truths := []flow.Truth{{First: list(4, 7)}, {First: list(4, 7), Births: []int{}, Dead: [][]int{}, Moved: [][]int{}}}
	for _, y := range tables(x, empty) {
		for _, z := range truths {
			sizes, can, e := flow.Play(y, z)
			if !same(sizes, [][]int{{4, 7}}) || !can || e != api.OK || !flow.ProveTruth(y, z) {
				t.Errorf("Play of %v: %v, %v, %v", z, sizes, can, e)
			}
		}
		b, e := flow.Bounds(y)
		l, e2 := flow.Leave(y)
		if !same(b, x.Counted) || e != api.OK || len(l) != 0 || e2 != api.OK {
			t.Errorf("Bounds, Leave: %v, %v; %v, %v", b, e, l, e2)
		}
	}
	for _, l := range [][]flow.Table{nil, {}} {
		if f, e := flow.Fail(l); len(f) != 0 || e != api.OK {
			t.Errorf("Fail: %v, %v", f, e)
		}
	}
	for _, counted := range [][][]flow.Range{nil, {}, {nil}, {{}}, {nil, {}}} {
		if e := flow.CheckTable(flow.Table{Counted: counted}); e != api.ErrArg {
			t.Errorf("CheckTable of %v: %v", counted, e)
		}
	}
}

// wild makes a number of any size.
func (d *dice) wild() int {
	return d.of(list(math.MinInt, math.MinInt+1, -1000, -51, -50, -1, 0, 1, 2, 3, 4, 5, 50, 51, 100, 499, 500, 501, 999, 1000, 1001, 1<<32, 1<<62, math.MaxInt-1, math.MaxInt))
}

// wildRange spoils one range of the lists, or none.
func (d *dice) wildRange(lists ...[]flow.Range) {
	l := lists[d.upTo(len(lists)-1)]
	if len(l) == 0 || d.upTo(1) == 0 {
		return
	}
	at := d.upTo(len(l) - 1)
	l[at] = to(l[at].Lo, d.wild())
	if d.upTo(1) == 0 {
		l[at] = to(d.wild(), l[at].Hi)
	}
}

// wildList makes a list longer or shorter, or leaves it as it is.
func wildList[T any](d *dice, l []T) []T {
	switch d.upTo(9) {
	case 0:
		return nil
	case 1:
		return slices.Concat(l, l)
	case 2:
		return l[:d.upTo(len(l))]
	}
	return l
}

// wildNumber spoils one number of the lists, or none.
func (d *dice) wildNumber(lists ...[]int) {
	l := lists[d.upTo(len(lists)-1)]
	if len(l) > 0 && d.upTo(1) == 0 {
		l[d.upTo(len(l)-1)] = d.wild()
	}
}

// wildTruth spoils a table and its truth in some places, or in none.
func (d *dice) wildTruth() (flow.Table, flow.Truth) {
	t, x := d.throwTruth(shape{d.from(1, 3), d.from(2, 4), 30, 3})
	if d.upTo(2) == 0 {
		d.shift(&t, 2, 30)
	}
	if d.upTo(2) == 0 {
		d.wildRange(append(t.Counted, t.Births, t.Rates, t.Net)...)
	}
	if d.upTo(2) == 0 {
		t.Counted, t.Births, t.Rates, t.Net = wildList(d, t.Counted), wildList(d, t.Births), wildList(d, t.Rates), wildList(d, t.Net)
	}
	if d.upTo(1) == 0 {
		x.First = slices.Clone(x.First)
		d.wildNumber(slices.Concat(x.Dead, x.Moved, [][]int{x.First, x.Births})...)
	}
	if d.upTo(2) == 0 {
		x.First, x.Births, x.Dead, x.Moved = wildList(d, x.First), wildList(d, x.Births), wildList(d, x.Dead), wildList(d, x.Moved)
	}
	return t, x
}

// errorOf tells what the chapter says of a table.
func errorOf(t flow.Table) api.Errno {
	if len(t.Counted) > 4 || len(t.Counted) > 0 && len(t.Counted[0]) > 4 {
		return api.ErrLimit
	}
	if len(t.Counted) == 0 || len(t.Counted[0]) < 2 {
		return api.ErrArg
	}
	groups := len(t.Counted[0])
	ok := len(t.Births) == len(t.Counted)-1 && len(t.Rates) == groups+1 && len(t.Net) == groups
	check := func(low, high int, lists ...[]flow.Range) {
		for _, r := range slices.Concat(lists...) {
			ok = ok && low <= r.Lo && r.Lo <= r.Hi && r.Hi <= high
		}
	}
	for _, l := range t.Counted {
		ok = ok && len(l) == groups
	}
	check(0, 500, t.Counted...)
	check(0, 500, t.Births)
	check(0, 1000, t.Rates)
	check(-50, 50, t.Net)
	if !ok {
		return api.ErrArg
	}
	return api.OK
}

// hasSizes tells what the chapter says of the lists and numbers of a truth.
func hasSizes(t flow.Table, x flow.Truth) bool {
	groups, steps := len(t.Net), len(t.Births)
	if len(x.First) != groups || len(x.Births) != steps || len(x.Dead) != steps || len(x.Moved) != steps || slices.Min(x.First) < 0 || slices.Max(x.First) > 500 {
		return false
	}
	for i, r := range t.Births {
		if !isIn(r, x.Births[i]) || len(x.Dead[i]) != groups+1 || len(x.Moved[i]) != groups {
			return false
		}
		for group, r := range t.Net {
			if !isIn(r, x.Moved[i][group]) {
				return false
			}
		}
	}
	return true
}

// P1, R2: each call returns, whatever its arguments are, and with an error all else is zero.
func TestWildArguments(t *testing.T) {
	d := dice(11)
	count := map[api.Errno]int{}
	for range 6000 {
		x, y := d.wildTruth()
		c, births := cell(d.upTo(3), d.upTo(3)), d.part(to(0, 50))
		if d.upTo(2) == 0 {
			c, births = cell(d.wild(), d.wild()), to(d.wild(), d.wild())
		}
		table := errorOf(x)
		if e := flow.CheckTable(x); e != table {
			t.Fatalf("CheckTable of %v: %v, not %v", x, e, table)
		}
		for call, f := range calls(x, y, c, births) {
			due := table
			if due == api.OK && (call == "Play" && !hasSizes(x, y) || call == "Would" && !slices.Contains(cellsOf(x), c) || call == "Project" && !(0 <= births.Lo && births.Lo <= births.Hi && births.Hi <= 500)) {
				due = api.ErrRange
			}
			e, zero := f()
			fails := due == api.OK && e == api.ErrFail && call != "Play" && call != "Fail" && call != "Fail of two"
			if e != due && !fails || e != api.OK && !zero {
				t.Fatalf("%s of %v, %v, %v, %v: %v, not %v; zero: %v", call, x, y, c, births, e, due, zero)
			}
			count[e]++
		}
		sizes, can, _ := flow.Play(x, y)
		if proven := flow.ProveTruth(x, y); proven && !can || can && proven != agreesWith(x, sizes) {
			t.Fatalf("ProveTruth of %v, %v: %v; %v, %v", x, y, proven, sizes, can)
		}
	}
	for _, e := range []api.Errno{api.OK, api.ErrArg, api.ErrRange, api.ErrFail, api.ErrLimit} {
		if count[e] < 100 {
			t.Errorf("only so many errors: %v", count)
		}
	}
}

func agreesWith(t flow.Table, sizes [][]int) bool {
	for _, c := range cellsOf(t) {
		if !isIn(countOf(t, c), sizes[c.Census][c.Group]) {
			return false
		}
	}
	return true
}

// A call with equal arguments returns equal results, whatever was called before it.
func TestNothingIsStored(t *testing.T) {
	l := fixedTables()
	results := func(x flow.Table) (b [][]flow.Range, left []flow.Cell, would flow.Range, further []flow.Range) {
		b, _ = flow.Bounds(x)
		left, _ = flow.Leave(x)
		would, _ = flow.Would(x, cell(0, 1))
		further, _ = flow.Project(x, to(3, 9))
		return b, left, would, further
	}
	for _, x := range l {
		b, left, would, further := results(x)
		for _, other := range l {
			results(other)
		}
		b2, left2, would2, further2 := results(x)
		if !same(b, b2) || !slices.Equal(left, left2) || would != would2 || !slices.Equal(further, further2) {
			t.Errorf("results of %v: %v, %v, %v, %v; again: %v, %v, %v, %v", x, b, left, would, further, b2, left2, would2, further2)
		}
	}
}
