package hide_test

import (
	"math"
	"slices"
	"testing"

	"tithing/api"
	"tithing/hide"
)

// roomy returns the list with free room behind it, which nobody may write to either.
func roomy[T any](list []T) []T { return slices.Grow(slices.Clone(list), 8) }

// whole returns the list with all the room behind it.
func whole[T any](list []T) []T { return slices.Clone(list[:cap(list)]) }

// deep changes a list of lists, and each of its lists.
func deep[T any](lists [][]T, change func([]T) []T, outer func([][]T) [][]T) [][]T {
	out := outer(lists)
	for i, l := range out {
		out[i] = change(l)
	}
	return out
}

// spoil writes to all the memory of the list, up to its capacity.
func spoil[T any](list []T, with T) {
	list = list[:cap(list)]
	for i := range list {
		list[i] = with
	}
}

// R4: arguments are not written to, not even behind their ends.
func TestArgumentsAreKept(t *testing.T) {
	for _, p := range fixed() {
		x := hide.Table{Rows: deep(p.t.Rows, roomy, roomy), Cap: p.t.Cap}
		candidate := deep(p.t.Rows, roomy, roomy)
		hidden, l := roomy(p.hidden), roomy(asks(ask(at(0, 0), 1, 1), ask(at(0, 0), 0, 0)))
		before, before2 := deep(x.Rows, whole, whole), deep(candidate, whole, whole)
		hidden2, l2 := whole(hidden), whole(l)
		hide.CheckTable(x)
		for range 2 {
			for _, call := range hiddenCalls(x, hidden, at(0, 0), l) {
				call()
			}
			hide.ProveCandidate(x, hidden, candidate)
		}
		if !same(deep(x.Rows, whole, whole), before) || !same(deep(candidate, whole, whole), before2) {
			t.Errorf("the rows are changed: %v, %v", x, candidate)
		}
		if !slices.Equal(whole(hidden), hidden2) || !slices.Equal(whole(l), l2) {
			t.Errorf("the lists are changed: %v, %v", whole(hidden), whole(l))
		}
	}
}

// R4: results are in memory of their own.
func TestMemory(t *testing.T) {
	x, hidden := example(), ring()
	wide := [][]hide.Range{ranges(to(0, 6), to(0, 6), to(3, 3)), ranges(to(2, 2), to(3, 9), to(3, 9)), ranges(to(5, 11), to(0, 0), to(2, 8))}
	high := rows(list(6, 0, 3), list(2, 9, 3), list(5, 0, 8))
	for range 3 {
		l, e := hide.Ranges(x, hidden)
		for i := range l {
			if !slices.Equal(l[i], wide[i]) || e != api.OK {
				t.Errorf("Ranges: %v, %v", l, e)
			}
			spoil(l[i], to(-7, -7))
		}
		shown, e := hide.Show(x, hidden, at(0, 0), true)
		for i := range shown {
			if !slices.Equal(shown[i], high[i]) || e != api.OK {
				t.Errorf("Show: %v, %v", shown, e)
			}
			spoil(shown[i], -7)
		}
		for _, c := range cells(at(0, 2), at(0, 1)) {
			// Nothing moves, so that the rows are those of the table.
			shown, e = hide.Show(x, cells(at(0, 0), at(0, 1)), c, true)
			if !same(shown, x.Rows) || e != api.OK {
				t.Errorf("Show: %v, %v", shown, e)
			}
			deep(shown, func(l []int) []int { spoil(l, -7); return l }, slices.Clone)
		}
		if !same(x.Rows, example().Rows) {
			t.Fatalf("the table is changed: %v", x)
		}
		for _, l := range [][]hide.Request{nil, asks(ask(at(0, 0), 5, 1))} {
			set, e := hide.Hide(x, hidden, l)
			if !slices.Equal(set, ring()) || e != api.OK {
				t.Errorf("Hide: %v, %v", set, e)
			}
			spoil(set, at(-7, -7))
			if !slices.Equal(hidden, ring()) {
				t.Fatalf("the hidden cells are changed: %v", hidden)
			}
		}
	}
}

// R3: nil and a list without elements are the same.
func TestEmptyLists(t *testing.T) {
	x := example()
	for _, hidden := range [][]hide.Cell{nil, {}} {
		for _, l := range [][]hide.Request{nil, {}} {
			if n, e := hide.Exposed(x, hidden, l); n != 0 || e != api.ErrNone {
				t.Errorf("Exposed: %d, %v", n, e)
			}
			if set, e := hide.Hide(x, hidden, l); len(set) != 0 || e != api.OK {
				t.Errorf("Hide: %v, %v", set, e)
			}
		}
		checkRanges(t, publication{x, hidden}, alone(x))
		for _, l := range [][][]int{nil, {}, {nil}, {{}}, {nil, {}, nil}} {
			if e := hide.CheckTable(hide.Table{Rows: l, Cap: 20}); e != api.ErrArg {
				t.Errorf("CheckTable of %v: %v", l, e)
			}
			if hide.ProveCandidate(x, hidden, l) {
				t.Errorf("ProveCandidate of %v", l)
			}
		}
	}
}

// wild makes a number of any size.
func (d *dice) wild() int {
	return d.of(math.MinInt, math.MinInt+1, -1000, -1, 0, 1, 2, 3, 4, 5, 20, 999, 1000, 1001, 1<<32, 1<<62, math.MaxInt-1, math.MaxInt)
}

// wildList makes a list longer or shorter, or leaves it as it is.
func wildList[T any](d *dice, l []T) []T {
	switch d.upTo(9) {
	case 0:
		return nil
	case 1:
		return slices.Concat(l, l)
	case 2:
		return l[:d.upTo(len(l))]
	}
	return l
}

// wildTable spoils a table in one place, or in none.
func (d *dice) wildTable() hide.Table {
	t := d.throwTable(d.from(1, 3), d.from(1, 4), d.of(1, 3, 20, 1000))
	row := d.upTo(len(t.Rows) - 1)
	switch d.upTo(15) {
	case 0:
		t.Cap = d.wild()
	case 1:
		t.Rows[row][d.upTo(len(t.Rows[0])-1)] = d.wild()
	case 2:
		t.Rows = wildList(d, t.Rows)
	case 3:
		t.Rows[row] = wildList(d, t.Rows[row])
	case 4:
		t.Rows[row] = make([]int, d.upTo(6))
	case 5:
		t.Rows = append(t.Rows, slices.Clone(t.Rows[0]))
	}
	return t
}

// wildCell makes a cell, often one of a table.
func (d *dice) wildCell() hide.Cell {
	switch d.upTo(9) {
	case 0:
		return at(d.wild(), d.upTo(3))
	case 1:
		return at(d.upTo(2), d.wild())
	}
	return at(d.upTo(2), d.upTo(3))
}

func (d *dice) wildHidden(t hide.Table) []hide.Cell {
	l := slices.DeleteFunc(cellsOf(t), func(hide.Cell) bool { return d.upTo(2) == 0 })
	switch d.upTo(9) {
	case 0:
		return append(l, d.wildCell())
	case 1:
		return wildList(d, l)
	case 2:
		return reordered(l, d.order(len(l)))
	}
	return l
}

func (d *dice) wildRequests() []hide.Request {
	var l []hide.Request
	for range d.of(1, 1, 2, 4, 8, 9) {
		l = append(l, ask(at(d.upTo(1), d.upTo(1)), d.upTo(3), d.upTo(3)))
	}
	switch d.upTo(9) {
	case 0:
		l = append(l, ask(at(0, 0), d.wild(), 0))
	case 1:
		l = append(l, ask(at(0, 0), 0, d.wild()))
	case 2, 3:
		l = append(l, ask(d.wildCell(), 0, 0))
	}
	return wildList(d, l)
}

// errorOf tells what the chapter says of a table.
func errorOf(t hide.Table) api.Errno {
	long := func(row []int) bool { return len(row) > 4 }
	if len(t.Rows) > 3 || slices.ContainsFunc(t.Rows, long) {
		return api.ErrLimit
	}
	if len(t.Rows) == 0 || len(t.Rows[0]) == 0 || t.Cap < 0 || t.Cap > 1000 {
		return api.ErrArg
	}
	for _, row := range t.Rows {
		if len(row) != len(t.Rows[0]) || slices.Min(row) < 0 || slices.Max(row) > t.Cap {
			return api.ErrArg
		}
	}
	return api.OK
}

// errorOfHidden tells what the chapter says of a table and of hidden cells.
func errorOfHidden(t hide.Table, hidden []hide.Cell) api.Errno {
	if e := errorOf(t); e != api.OK {
		return e
	}
	all := cellsOf(t)
	last := -1
	for _, c := range hidden {
		n := slices.Index(all, c)
		if n <= last {
			return api.ErrRange
		}
		last = n
	}
	return api.OK
}

// errorOfRequests tells what the chapter says of a table, of hidden cells and of requests.
func errorOfRequests(t hide.Table, hidden []hide.Cell, l []hide.Request) api.Errno {
	if e := errorOfHidden(t, hidden); e != api.OK {
		return e
	}
	if len(l) > 8 {
		return api.ErrLimit
	}
	for _, q := range l {
		if !slices.Contains(cellsOf(t), q.Cell) || q.Below < 0 || q.Below > 1000 || q.Above < 0 || q.Above > 1000 {
			return api.ErrRange
		}
	}
	return api.OK
}

// errorsDue tells which error each call has.
func errorsDue(t hide.Table, hidden []hide.Cell, c hide.Cell, l []hide.Request) map[string]api.Errno {
	e := errorOfHidden(t, hidden)
	due := map[string]api.Errno{"Ranges": e, "Show low": e, "Show high": e}
	if e == api.OK && !slices.Contains(cellsOf(t), c) {
		due["Show low"], due["Show high"] = api.ErrRange, api.ErrRange
	}
	e = errorOfRequests(t, hidden, l)
	due["Exposed"], due["Hide"] = e, e
	if e == api.OK && firstExposed(t, hidden, l) < 0 {
		due["Exposed"] = api.ErrNone
	}
	if e == api.OK && firstExposed(t, cellsOf(t), l) >= 0 {
		due["Hide"] = api.ErrSecret
	}
	return due
}

// P1, R1, R2: each call returns, whatever its arguments are, with the first error, and with an error all else is zero.
func TestWild(t *testing.T) {
	d := dice(9)
	count := map[api.Errno]int{}
	for range 6000 {
		x := d.wildTable()
		hidden, c, l := d.wildHidden(x), d.wildCell(), d.wildRequests()
		if e := hide.CheckTable(x); e != errorOf(x) {
			t.Fatalf("CheckTable of %v: %v, not %v", x, e, errorOf(x))
		}
		due := errorsDue(x, hidden, c, l)
		for call, do := range hiddenCalls(x, hidden, c, l) {
			e, zero := do()
			if e != due[call] || e != api.OK && !zero {
				t.Fatalf("%s of %v, %v, %v, %v: %v, not %v; zero: %v", call, x, hidden, c, l, e, due[call], zero)
			}
			count[e]++
		}
		other := d.wildTable()
		for _, rows := range [][][]int{x.Rows, other.Rows} {
			is := errorOfHidden(x, hidden) == api.OK && isCandidate(publication{x, hidden}, rows)
			if hide.ProveCandidate(x, hidden, rows) != is {
				t.Fatalf("ProveCandidate of %v, %v, %v: %v", x, hidden, rows, !is)
			}
		}
	}
	for _, e := range []api.Errno{api.OK, api.ErrArg, api.ErrRange, api.ErrLimit, api.ErrNone, api.ErrSecret} {
		if count[e] < 100 {
			t.Errorf("only so many errors: %v", count)
		}
	}
}

// A call with equal arguments returns equal results, also where the chapter leaves a choice, whatever was called before it.
func TestNothingIsStored(t *testing.T) {
	l := asks(ask(at(0, 0), 1, 0))
	results := func(p publication) (all [][]hide.Range, low, high [][]int, set []hide.Cell) {
		p = publication{copyOf(p.t), slices.Clone(p.hidden)}
		all, _ = hide.Ranges(p.t, p.hidden)
		low, _ = hide.Show(p.t, p.hidden, at(0, 0), false)
		high, _ = hide.Show(p.t, p.hidden, at(0, 0), true)
		set, _ = hide.Hide(p.t, p.hidden, l)
		return all, low, high, set
	}
	for _, p := range fixed() {
		all, low, high, set := results(p)
		for _, other := range fixed() {
			results(other)
		}
		all2, low2, high2, set2 := results(p)
		if !same(all, all2) || !same(low, low2) || !same(high, high2) || !slices.Equal(set, set2) {
			t.Errorf("results of %v: %v, %v, %v, %v; again: %v, %v, %v, %v", p, all, low, high, set, all2, low2, high2, set2)
		}
	}
}
