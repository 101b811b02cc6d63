package round_test

import (
	"math"
	"slices"
	"testing"

	"tithing/api"
	"tithing/round"
)

// roomy returns the list with free room behind it, which nobody may write to either.
func roomy[T any](list []T) []T { return slices.Grow(slices.Clone(list), 8) }

// whole returns the list with all the room behind it.
func whole[T any](list []T) []T { return slices.Clone(list[:cap(list)]) }

// deep changes a list of lists, and each of its lists.
func deep[T any](lists [][]T, change func([]T) []T, outer func([][]T) [][]T) [][]T {
	out := outer(lists)
	for i, l := range out {
		out[i] = change(l)
	}
	return out
}

// spoil writes to all the memory of the list, up to its capacity.
func spoil[T any](list []T, with T) {
	list = list[:cap(list)]
	for i := range list {
		list[i] = with
	}
}

// R4: arguments are not written to, not even behind their ends.
func TestArgumentsAreKept(t *testing.T) {
	for _, x := range append(fixed(), wide()) {
		x = round.Table{Base: x.Base, Cells: deep(x.Cells, roomy, roomy), Fixes: roomy(x.Fixes)}
		numbers := deep(x.Cells, roomy, roomy)
		weights := roomy(list(3, 0, 2, 2))
		cells, fixes, numbers2, weights2 := deep(x.Cells, whole, whole), whole(x.Fixes), deep(numbers, whole, whole), whole(weights)
		for range 2 {
			round.CheckTable(x)
			for _, call := range tableCalls(x, numbers) {
				call()
			}
			round.ProveRounding(x, numbers, 100)
			round.Divide(weights, 11)
		}
		if !same(deep(x.Cells, whole, whole), cells) || !slices.Equal(whole(x.Fixes), fixes) || !same(deep(numbers, whole, whole), numbers2) {
			t.Errorf("the table or the numbers are changed: %v, %v", x, numbers)
		}
		if !slices.Equal(whole(weights), weights2) {
			t.Errorf("the weights are changed: %v", whole(weights))
		}
	}
}

// R4: results are in memory of their own.
func TestMemory(t *testing.T) {
	for _, x := range []round.Table{example(), wide(), table(7, list(7, 14), list(7, 14), list(0, 21)), table(10, list(5, 5), list(5, 5))} {
		before := copyOf(x)
		want := tried(x)
		for range 3 {
			a := asked(t, x)
			for i := range a.best {
				if !slices.Equal(a.best[i], want.best[i]) || !slices.Equal(a.span[i], want.span[i]) {
					t.Errorf("Best, Span of %v: %v, not %v", x, a, want)
				}
				spoil(a.best[i], -7)
				spoil(a.span[i], to(-7, -7))
			}
			spoil(a.best, nil)
			spoil(a.span, nil)
			if !same(x.Cells, before.Cells) {
				t.Fatalf("the table is changed: %v", x)
			}
		}
	}
	weights := list(3, 2, 2)
	for range 3 {
		l, e := round.Divide(weights, 7)
		if !slices.Equal(l, list(3, 2, 2)) || e != api.OK {
			t.Errorf("Divide: %v, %v", l, e)
		}
		spoil(l, -7)
		if !slices.Equal(weights, list(3, 2, 2)) {
			t.Fatalf("the weights are changed: %v", weights)
		}
	}
}

// R3: nil and a list without elements are the same.
func TestEmptyLists(t *testing.T) {
	for _, l := range [][][]int{nil, {}, {nil}, {{}}, {nil, {}}} {
		if e := round.CheckTable(table(5, l...)); e != api.ErrArg {
			t.Errorf("CheckTable of %v: %v", l, e)
		}
		if n, e := round.Change(example(), l); n != 0 || e != api.ErrRange || round.ProveRounding(example(), l, 99) || round.ProveRounding(table(5, l...), l, 99) {
			t.Errorf("Change, ProveRounding of %v: %d, %v", l, n, e)
		}
	}
	x, y := example(), example()
	x.Fixes, y.Fixes = nil, fixes()
	if !asked(t, x).is(asked(t, y)) {
		t.Errorf("%v without fixes: %v, and %v", x, asked(t, x), asked(t, y))
	}
	for _, l := range [][]int{nil, {}} {
		if parts, e := round.Divide(l, 0); len(parts) != 0 || e != api.ErrNone {
			t.Errorf("Divide of %v: %v, %v", l, parts, e)
		}
	}
}

// wild makes a number of any size.
func (d *dice) wild() int {
	return d.of(math.MinInt, math.MinInt+1, -10100, -100, -1, 0, 1, 2, 3, 4, 5, 20, 99, 100, 101, 9999, 10000, 10001, 10100, 10101, 100000, 100001, 1<<32, 1<<62, math.MaxInt-1, math.MaxInt)
}

// wildList makes a list longer or shorter, or leaves it as it is.
func wildList[T any](d *dice, l []T) []T {
	switch d.upTo(9) {
	case 0:
		return nil
	case 1:
		return slices.Concat(l, l)
	case 2:
		return l[:d.upTo(len(l))]
	}
	return l
}

// wildTable spoils a table in one place, or in none.
func (d *dice) wildTable() round.Table {
	t := d.throwTable(d.from(1, 5), d.from(1, 4))
	for range d.of(0, 0, 1, 2, 5, 10, 11) {
		t.Fixes = append(t.Fixes, d.throwFix(t))
	}
	row := d.upTo(len(t.Cells) - 1)
	switch d.upTo(19) {
	case 0:
		t.Base = d.wild()
	case 1:
		t.Cells[row][d.upTo(len(t.Cells[0])-1)] = d.wild()
	case 2:
		t.Cells = wildList(d, t.Cells)
	case 3:
		t.Cells[row] = wildList(d, t.Cells[row])
	case 4:
		t.Cells[row] = make([]int, d.upTo(6))
	case 5:
		t.Cells = append(t.Cells, slices.Clone(t.Cells[0]))
	case 6:
		t.Fixes = append(t.Fixes, fix(d.wild(), d.upTo(3), 0))
	case 7:
		t.Fixes = append(t.Fixes, fix(d.upTo(4), d.wild(), 0))
	case 8:
		t.Fixes = append(t.Fixes, fix(0, 0, d.wild()))
	}
	return t
}

// wildNumbers makes numbers, often those of a rounding, for any table.
func (d *dice) wildNumbers(t round.Table) [][]int {
	l, _, e := round.Best(t)
	if e != api.OK {
		l = copyOfRows(t.Cells)
	}
	if len(l) == 0 || len(l[0]) == 0 {
		return l
	}
	row := d.upTo(len(l) - 1)
	switch d.upTo(9) {
	case 0:
		l[row] = wildList(d, l[row])
	case 1:
		l = wildList(d, l)
	case 2:
		l[0][d.upTo(len(l[0])-1)] = d.wild()
	case 3:
		l[0][d.upTo(len(l[0])-1)] += d.of(-t.Base, t.Base)
	}
	return l
}

// errorOf tells what the chapter says of a table.
func errorOf(t round.Table) api.Errno {
	long := func(row []int) bool { return len(row) > 4 }
	if len(t.Cells) > 5 || len(t.Fixes) > 10 || slices.ContainsFunc(t.Cells, long) {
		return api.ErrLimit
	}
	if t.Base < 2 || t.Base > 100 || len(t.Cells) == 0 || len(t.Cells[0]) == 0 {
		return api.ErrArg
	}
	for _, row := range t.Cells {
		if len(row) != len(t.Cells[0]) || slices.Min(row) < 0 || slices.Max(row) > 10000 {
			return api.ErrArg
		}
	}
	for _, f := range t.Fixes {
		if f.Row < 0 || f.Row >= len(t.Cells) || f.Column < 0 || f.Column >= len(t.Cells[0]) || f.Value < 0 || f.Value > 10100 {
			return api.ErrArg
		}
	}
	return api.OK
}

// errorOfChange tells what the chapter says of a table and of numbers.
func errorOfChange(t round.Table, l [][]int) api.Errno {
	if e := errorOf(t); e != api.OK {
		return e
	}
	wrong := func(row []int) bool {
		return len(row) != len(t.Cells[0]) || slices.Min(row) < 0 || slices.Max(row) > 10100
	}
	if len(l) != len(t.Cells) || slices.ContainsFunc(l, wrong) {
		return api.ErrRange
	}
	return api.OK
}

func errorOfDivide(weights []int, total int) api.Errno {
	switch {
	case len(weights) > 12:
		return api.ErrLimit
	case len(weights) > 0 && (slices.Min(weights) < 0 || slices.Max(weights) > 10000) || total < 0 || total > 100000:
		return api.ErrRange
	case sumOf(weights) == 0:
		return api.ErrNone
	}
	return api.OK
}

func errorOfLearn(base, number int) api.Errno {
	switch {
	case base < 2 || base > 100:
		return api.ErrArg
	case number < 0 || number > 10100 || number%base != 0:
		return api.ErrRange
	}
	return api.OK
}

// P1, R1, R2: each call returns, whatever its arguments are, with the first error, and with an error all else is zero.
func TestWildTables(t *testing.T) {
	d := dice(9)
	count := map[api.Errno]int{}
	proved := 0
	for range 10000 {
		x := d.wildTable()
		l := d.wildNumbers(x)
		due := map[string]api.Errno{"Change": errorOfChange(x, l), "Ways": errorOf(x), "Best": errorOf(x), "Span": errorOf(x)}
		if n, _ := round.Ways(x); errorOf(x) == api.OK && n == 0 {
			due["Best"], due["Span"] = api.ErrFail, api.ErrFail
		}
		if e := round.CheckTable(x); e != errorOf(x) {
			t.Fatalf("CheckTable of %v: %v, not %v", x, e, errorOf(x))
		}
		for call, do := range tableCalls(x, l) {
			e, zero := do()
			if e != due[call] || e != api.OK && !zero {
				t.Fatalf("%s of %v, %v: %v, not %v; zero: %v", call, x, l, e, due[call], zero)
			}
			count[e]++
		}
		is := errorOf(x) == api.OK && isRounding(x, l)
		if round.ProveRounding(x, l, math.MaxInt) != is {
			t.Fatalf("ProveRounding of %v, %v: %v", x, l, !is)
		}
		if is {
			proved++
		}
	}
	for _, e := range []api.Errno{api.OK, api.ErrArg, api.ErrRange, api.ErrLimit, api.ErrFail} {
		if count[e] < 500 || proved < 500 {
			t.Errorf("only so many errors: %v, and so many roundings: %d", count, proved)
		}
	}
}

// P1, R1, R2: the calls without a table.
func TestWildNumbers(t *testing.T) {
	d := dice(11)
	count := map[api.Errno]int{}
	for range 10000 {
		weights, total := wildList(&d, d.weights()), d.of(d.wild(), d.upTo(100000))
		switch d.upTo(3) {
		case 0:
			weights = append(weights, d.wild())
		case 1:
			clear(weights)
		}
		l, e := round.Divide(weights, total)
		if e != errorOfDivide(weights, total) || e != api.OK && len(l) > 0 {
			t.Fatalf("Divide of %v, %d: %v, %v, not %v", weights, total, l, e, errorOfDivide(weights, total))
		}
		count[e]++
		base, number := d.of(d.wild(), d.base()), d.of(d.wild(), d.upTo(10200))
		r, e := round.Learn(base, number)
		if e != errorOfLearn(base, number) || e != api.OK && r != to(0, 0) {
			t.Fatalf("Learn of %d to the base %d: %v, %v, not %v", number, base, r, e, errorOfLearn(base, number))
		}
		count[e]++
	}
	for _, e := range []api.Errno{api.OK, api.ErrArg, api.ErrRange, api.ErrLimit, api.ErrNone} {
		if count[e] < 300 {
			t.Errorf("only so many errors: %v", count)
		}
	}
}

// A call with equal arguments returns equal results, whatever was called before it.
func TestNothingIsStored(t *testing.T) {
	for _, x := range append(fixed(), wide()) {
		a := asked(t, copyOf(x))
		for _, other := range fixed() {
			asked(t, other)
		}
		if b := asked(t, copyOf(x)); !a.is(b) {
			t.Errorf("%v: %v; again: %v", x, a, b)
		}
	}
}
