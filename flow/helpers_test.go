package flow_test

import (
	"slices"
	"testing"

	"tithing/api"
	"tithing/flow"
)

func to(low, high int) flow.Range { return flow.Range{Lo: low, Hi: high} }

func row(l ...flow.Range) []flow.Range { return l }

func rows(l ...[]flow.Range) [][]flow.Range { return l }

func cell(census, group int) flow.Cell { return flow.Cell{Census: census, Group: group} }

func cells(l ...flow.Cell) []flow.Cell { return l }

func tables(l ...flow.Table) []flow.Table { return l }

func list(l ...int) []int { return l }

func same[T comparable](a, b [][]T) bool { return slices.EqualFunc(a, b, slices.Equal) }

func isIn(r flow.Range, n int) bool { return r.Lo <= n && n <= r.Hi }

func within(r, wide flow.Range) bool { return wide.Lo <= r.Lo && r.Hi <= wide.Hi }

// example is the table of the chapter's examples; contradicting is the one whose counts do not agree.
func example() flow.Table {
	return flow.Table{
		Counted: rows(row(to(100, 100), to(80, 90), to(40, 50)), row(to(60, 120), to(90, 97), to(100, 115))),
		Births:  row(to(110, 120)),
		Rates:   row(to(150, 200), to(20, 40), to(50, 60), to(300, 400)),
		Net:     row(to(0, 0), to(-5, 5), to(0, 0)),
	}
}

func contradicting() flow.Table {
	t := example()
	t.Counted[1][0] = to(60, 70)
	return t
}

// impossible is a table of which no truth can be: more leave than are born.
func impossible() flow.Table {
	t := example()
	t.Births[0], t.Net[0] = to(0, 40), to(-50, -50)
	return t
}

// quiet is a table of which nobody dies, and nobody moves: two groups, with so many who are born before each census but the first one.
func quiet(births []flow.Range, counted ...[]flow.Range) flow.Table {
	return flow.Table{Counted: counted, Births: births, Rates: make([]flow.Range, 3), Net: make([]flow.Range, 2)}
}

// story is a truth of the chapter's examples.
func story() flow.Truth {
	return flow.Truth{First: list(100, 85, 45), Births: list(115), Dead: [][]int{{20, 3, 5, 15}}, Moved: [][]int{{0, -5, 0}}}
}

func copyOfTable(t flow.Table) flow.Table {
	out := flow.Table{Births: slices.Clone(t.Births), Rates: slices.Clone(t.Rates), Net: slices.Clone(t.Net)}
	for _, l := range t.Counted {
		out.Counted = append(out.Counted, slices.Clone(l))
	}
	return out
}

// with returns the table with another count of the cell.
func with(t flow.Table, c flow.Cell, count flow.Range) flow.Table {
	t = copyOfTable(t)
	t.Counted[c.Census][c.Group] = count
	return t
}

func countOf(t flow.Table, c flow.Cell) flow.Range { return t.Counted[c.Census][c.Group] }

func cellsOf(t flow.Table) []flow.Cell {
	var l []flow.Cell
	for census, counts := range t.Counted {
		for group := range counts {
			l = append(l, cell(census, group))
		}
	}
	return l
}

// forDead calls do with all numbers of so many persons who can die by the rate.
func forDead(n int, rate flow.Range, do func(d int)) {
	for d := n * rate.Lo / 1000; (d-1)*1000 < n*rate.Hi && d <= n; d++ {
		do(d)
	}
}

func dead(n int, rate flow.Range) []int {
	var l []int
	forDead(n, rate, func(d int) { l = append(l, d) })
	return l
}

// alive returns all numbers of so many persons who can survive by the rate.
func alive(n int, rate flow.Range) []int { return survivors(rate, list(n)) }

func numbers(r flow.Range) []int {
	var l []int
	for n := r.Lo; n <= r.Hi; n++ {
		l = append(l, n)
	}
	return l
}

// sums returns all sums of one number of each list, rising.
func sums(lists ...[]int) []int {
	const below = 5000
	out := list(0)
	for _, l := range lists {
		var is [2 * below]bool
		for _, a := range out {
			for _, b := range l {
				is[a+b+below] = true
			}
		}
		out = nil
		for at, yes := range is {
			if yes {
				out = append(out, at-below)
			}
		}
	}
	return out
}

// allowed tells which sizes a cell can have by its count.
type allowed func(c flow.Cell, n int) bool

// byCounts allows what the counts do; those of some cells are left out.
func byCounts(t flow.Table, out ...flow.Cell) allowed {
	return func(c flow.Cell, n int) bool {
		return n >= 0 && (c.Census > 0 || n <= 500) && (slices.Contains(out, c) || c.Census == len(t.Counted) || isIn(countOf(t, c), n))
	}
}

// only allows the cell nothing but this number, too.
func (a allowed) only(one flow.Cell, number int) allowed {
	return func(c flow.Cell, n int) bool { return (c != one || n == number) && a(c, n) }
}

func (a allowed) filter(c flow.Cell, sizes []int) []int {
	var l []int
	for _, n := range sizes {
		if a(c, n) {
			l = append(l, n)
		}
	}
	return l
}

// canBe tells whether some truth has allowed sizes. No persons of a cell come to two others, so that all sizes that a cell can have are carried on, cell by cell.
func canBe(t flow.Table, a allowed) bool {
	last := len(t.Net) - 1
	before := make([][]int, len(t.Net))
	for census := range t.Counted {
		now := make([][]int, len(t.Net))
		for group := range now {
			now[group] = numbers(to(0, 500))
			if census > 0 {
				came := survivors(t.Rates[group], numbers(t.Births[census-1]))
				if group > 0 {
					came = survivors(t.Rates[group], before[group-1])
				}
				stayed := list(0)
				if group == last {
					stayed = survivors(t.Rates[last+1], before[last])
				}
				now[group] = sums(came, stayed, numbers(t.Net[group]))
			}
			now[group] = a.filter(cell(census, group), now[group])
			if len(now[group]) == 0 {
				return false
			}
		}
		before = now
	}
	return true
}

// survivors returns all numbers that can survive of some of the sizes.
func survivors(rate flow.Range, sizes []int) []int {
	var is [5000]bool
	for _, n := range sizes {
		forDead(n, rate, func(d int) { is[n-d] = true })
	}
	var l []int
	for n, yes := range is {
		if yes {
			l = append(l, n)
		}
	}
	return l
}

// sizes are those of all groups at a census; groups that a table does not have are 0.
type sizes [4]int

// products returns all sizes that have one number of each list.
func products(lists ...[]int) []sizes {
	out := []sizes{{}}
	for group, l := range lists {
		var more []sizes
		for _, s := range out {
			for _, n := range l {
				s[group] = n
				more = append(more, s)
			}
		}
		out = more
	}
	return out
}

// after returns all sizes at the next census to which these lead, with so many births.
func after(t flow.Table, s sizes, births flow.Range) []sizes {
	last := len(t.Net) - 1
	lists := make([][]int, len(t.Net))
	var young [][]int
	for _, b := range numbers(births) {
		young = append(young, alive(b, t.Rates[0]))
	}
	lists[0] = sums(slices.Concat(young...), numbers(t.Net[0]))
	for group := 1; group <= last; group++ {
		lists[group] = sums(alive(s[group-1], t.Rates[group]), numbers(t.Net[group]))
	}
	lists[last] = sums(lists[last], alive(s[last], t.Rates[last+1]))
	return products(lists...)
}

func (a allowed) all(t flow.Table, census int, s sizes) bool {
	for group := range t.Net {
		if !a(cell(census, group), s[group]) {
			return false
		}
	}
	return true
}

// histories returns for each census the sizes that are part of some truth that can be and agrees: all sizes of all groups together are tried. More births lead to further censuses.
func histories(t flow.Table, a allowed, more ...flow.Range) []map[sizes]bool {
	births := slices.Concat(t.Births, more)
	var first [][]int
	for group := range t.Net {
		first = append(first, a.filter(cell(0, group), numbers(to(0, 500))))
	}
	out := make([]map[sizes]bool, len(births)+1)
	for census := range out {
		out[census] = map[sizes]bool{}
	}
	for _, s := range products(first...) {
		out[0][s] = true
	}
	for census, range1 := range births {
		for s := range out[census] {
			for _, next := range after(t, s, range1) {
				if a.all(t, census+1, next) {
					out[census+1][next] = true
				}
			}
		}
	}
	for census := len(births) - 1; census >= 0; census-- {
		for s := range out[census] {
			isNext := func(next sizes) bool { return out[census+1][next] }
			if !slices.ContainsFunc(after(t, s, births[census]), isNext) {
				delete(out[census], s)
			}
		}
	}
	return out
}

// endsOf returns for each group the smallest and the greatest of its sizes.
func endsOf(t flow.Table, all map[sizes]bool) []flow.Range {
	l := make([]flow.Range, len(t.Net))
	for group := range l {
		l[group] = to(5000, -5000)
		for s := range all {
			l[group] = to(min(l[group].Lo, s[group]), max(l[group].Hi, s[group]))
		}
	}
	return l
}

// listsOf calls try with all lists of cells, short ones first, and in the order of the chapter, until it returns false.
func listsOf(all []flow.Cell, try func(l []flow.Cell) bool) {
	lists := [][]flow.Cell{nil}
	for len(lists) > 0 {
		var longer [][]flow.Cell
		for _, l := range lists {
			if !try(l) {
				return
			}
			from := 0
			if len(l) > 0 {
				from = slices.Index(all, l[len(l)-1]) + 1
			}
			for _, c := range all[from:] {
				longer = append(longer, append(slices.Clone(l), c))
			}
		}
		lists = longer
	}
}

// smallestOf tries all lists of cells.
func smallestOf(t flow.Table) (found []flow.Cell, some bool) {
	listsOf(cellsOf(t), func(l []flow.Cell) bool {
		if canBe(t, byCounts(t, l...)) {
			found, some = l, true
		}
		return !some
	})
	return found, some
}

// dice are thrown in the same way in each run.
type dice uint64

func (d *dice) upTo(most int) int {
	*d = *d*6364136223846793005 + 1442695040888963407
	return int(uint64(*d)>>33) % (most + 1)
}

func (d *dice) from(low, high int) int { return low + d.upTo(high-low) }

func (d *dice) of(l []int) int { return l[d.upTo(len(l)-1)] }

// part makes a range within this one.
func (d *dice) part(r flow.Range) flow.Range {
	low := d.from(r.Lo, r.Hi)
	return to(low, d.from(low, r.Hi))
}

// near makes a range that has the number: it is at most so wide on either side, and within most.
func (d *dice) near(n, width int, most flow.Range) flow.Range {
	return to(max(most.Lo, n-d.upTo(width)), min(most.Hi, n+d.upTo(width)))
}

// shape tells how great a table is: its counts are at most most, and ranges about twice as wide as width.
type shape struct{ censuses, groups, most, width int }

// throwRates makes rates by which few die, or many.
func (d *dice) throwRates(many int) []flow.Range {
	var l []flow.Range
	for range many {
		most := list(0, 60, 250, 1000)[d.upTo(3)]
		l = append(l, d.near(d.upTo(most), list(0, 20, 100)[d.upTo(2)], to(0, 1000)))
	}
	return l
}

// throwTruth makes a table that is valid, and a truth of it that can be and agrees.
func (d *dice) throwTruth(s shape) (flow.Table, flow.Truth) {
	for {
		t := flow.Table{Rates: d.throwRates(s.groups + 1)}
		var x flow.Truth
		for range s.groups {
			x.First = append(x.First, d.upTo(s.most))
			n := d.from(-min(s.most/4, 48), min(s.most/2, 48))
			t.Net = append(t.Net, d.near(n, min(s.width, 9), to(-50, 50)))
		}
		for range s.censuses - 1 {
			b := d.upTo(s.most)
			x.Births = append(x.Births, b)
			t.Births = append(t.Births, d.near(b, s.width, to(0, 500)))
		}
		if d.tell(t, &x) {
			d.count(&t, x, s.width)
			return t, x
		}
	}
}

// tell completes a truth whose First and Births are known; it fails if some size is below 0, or too great to be counted.
func (d *dice) tell(t flow.Table, x *flow.Truth) bool {
	before := x.First
	for _, b := range x.Births {
		all := append(list(b), before...)
		var died, moved []int
		for i, n := range all {
			died = append(died, d.of(dead(n, t.Rates[i])))
		}
		for _, r := range t.Net {
			moved = append(moved, d.of(numbers(r)))
		}
		x.Dead, x.Moved = append(x.Dead, died), append(x.Moved, moved)
		before = leadTo(all, died, moved)
		if slices.Min(before) < 0 || slices.Max(before) > 500 {
			return false
		}
	}
	return true
}

// leadTo returns the sizes at the next census, as the chapter defines them; those before, and the dead, begin with the births.
func leadTo(all, died, moved []int) []int {
	var l []int
	for group, m := range moved {
		l = append(l, all[group]-died[group]+m)
	}
	oldest := len(all) - 1
	l[oldest-1] += all[oldest] - died[oldest]
	return l
}

// sizesOf returns the sizes of all groups at all censuses.
func sizesOf(x flow.Truth) [][]int {
	out := [][]int{x.First}
	for i, b := range x.Births {
		out = append(out, leadTo(append(list(b), out[i]...), x.Dead[i], x.Moved[i]))
	}
	return out
}

// count makes the counts of the table, with which the truth agrees.
func (d *dice) count(t *flow.Table, x flow.Truth, width int) {
	for _, l := range sizesOf(x) {
		var counts []flow.Range
		for _, n := range l {
			counts = append(counts, d.near(n, width, to(0, 500)))
		}
		t.Counted = append(t.Counted, counts)
	}
}

// shift makes some counts of the table wrong.
func (d *dice) shift(t *flow.Table, many, most int) {
	for range many {
		counts := t.Counted[d.upTo(len(t.Counted)-1)]
		group := d.upTo(len(counts) - 1)
		low := min(500, max(0, counts[group].Lo+d.from(-most, most)))
		counts[group] = to(low, min(500, low+counts[group].Hi-counts[group].Lo))
	}
}

// throwTable makes a table; the counts of many do not agree.
func (d *dice) throwTable(s shape) flow.Table {
	t, _ := d.throwTruth(s)
	if d.upTo(1) == 0 {
		d.shift(&t, d.upTo(4), 2*s.width+s.most/4)
	}
	return t
}

// throwShape makes a shape of a few persons, or of many.
func (d *dice) throwShape() shape {
	return shape{d.from(1, 4), d.from(2, 4), list(6, 30, 200, 480)[d.upTo(3)], list(0, 2, 9, 60)[d.upTo(3)]}
}

// fixedTables are the tables of this file, and others at the limits.
func fixedTables() []flow.Table {
	wide, births := to(0, 500), row(to(5, 7), to(1, 2))
	full := flow.Table{Births: row(wide, wide, wide), Rates: slices.Repeat(row(to(0, 1000)), 5), Net: slices.Repeat(row(to(-50, 50)), 4)}
	gone := flow.Table{Births: row(wide), Rates: slices.Repeat(row(to(1000, 1000)), 3), Net: row(to(0, 0), to(2, 3)), Counted: rows(row(wide, wide), row(wide, wide))}
	for range 4 {
		full.Counted = append(full.Counted, slices.Repeat(row(wide), 4))
	}
	return tables(
		example(), contradicting(), impossible(), full, gone, with(gone, cell(1, 0), to(1, 500)),
		quiet(births, row(to(10, 12), to(20, 30)), row(to(6, 9), wide), row(wide, to(40, 47))),
		quiet(births, row(to(10, 12), to(20, 30)), row(to(8, 9), wide), row(wide, wide)),
		quiet(births, row(to(10, 10), to(20, 20)), row(to(6, 6), to(31, 31)), row(wide, to(38, 38))),
		quiet(births, row(to(10, 10), to(20, 20)), row(to(6, 6), to(31, 31)), row(wide, wide)),
		quiet(nil, row(to(3, 5), wide)), quiet(row(wide, wide, wide), row(wide, wide), row(wide, wide), row(wide, wide), row(wide, wide)),
	)
}

// forTables calls check with the tables of this file, and with many others.
func forTables(t *testing.T, many int, check func(t *testing.T, d *dice, x flow.Table)) {
	t.Helper()
	d := dice(1)
	l := fixedTables()
	for range many {
		l = append(l, d.throwTable(d.throwShape()))
	}
	for _, x := range l {
		check(t, &d, x)
		if t.Failed() {
			return
		}
	}
}

// boundsOf returns what Bounds does, and whether the counts agree.
func boundsOf(t *testing.T, x flow.Table) (b [][]flow.Range, agree bool) {
	t.Helper()
	b, e := flow.Bounds(x)
	if e != api.OK && (e != api.ErrFail || len(b) != 0) {
		t.Fatalf("Bounds of %v: %v, %v", x, b, e)
	}
	return b, e == api.OK
}

// wouldOf returns what Would does, and whether the counts of all other cells agree.
func wouldOf(t *testing.T, x flow.Table, c flow.Cell) (r flow.Range, agree bool) {
	t.Helper()
	r, e := flow.Would(x, c)
	if e != api.OK && (e != api.ErrFail || r != to(0, 0)) {
		t.Fatalf("Would of %v, %v: %v, %v", x, c, r, e)
	}
	return r, e == api.OK
}
