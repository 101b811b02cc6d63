package flow_test

import (
	"math"
	"slices"
	"testing"

	"tithing/api"
	"tithing/flow"
)

// wrongTable is not valid, with its error.
type wrongTable struct {
	t flow.Table
	e api.Errno
}

// wrongTables are the chapter's table, changed.
func wrongTables() map[string]wrongTable {
	out := map[string]wrongTable{}
	add := func(what string, e api.Errno, change func(t *flow.Table)) {
		t := example()
		change(&t)
		out[what] = wrongTable{t, e}
	}
	add("5 censuses", api.ErrLimit, func(t *flow.Table) { t.Counted = append(t.Counted, t.Counted[0], t.Counted[0], t.Counted[0]) })
	add("5 empty censuses", api.ErrLimit, func(t *flow.Table) { t.Counted = make([][]flow.Range, 5) })
	add("1000 censuses", api.ErrLimit, func(t *flow.Table) { t.Counted = make([][]flow.Range, 1000) })
	add("5 groups at first", api.ErrLimit, func(t *flow.Table) { t.Counted[0] = make([]flow.Range, 5) })
	add("5 groups", api.ErrLimit, func(t *flow.Table) {
		t.Counted = rows(make([]flow.Range, 5), make([]flow.Range, 5))
		t.Rates, t.Net = make([]flow.Range, 6), make([]flow.Range, 5)
	})
	add("5 groups, all else wrong", api.ErrLimit, func(t *flow.Table) { *t = flow.Table{Counted: rows(make([]flow.Range, 5))} })
	add("1000 groups at first", api.ErrLimit, func(t *flow.Table) { t.Counted[0] = make([]flow.Range, 1000) })
	add("nothing", api.ErrArg, func(t *flow.Table) { *t = flow.Table{} })
	add("no censuses", api.ErrArg, func(t *flow.Table) { t.Counted = nil })
	add("no censuses, and fewer births", api.ErrArg, func(t *flow.Table) { t.Counted, t.Births = [][]flow.Range{}, nil })
	add("no groups", api.ErrArg, func(t *flow.Table) {
		t.Counted, t.Rates, t.Net = rows(nil, nil), row(to(0, 0)), nil
	})
	add("1 group", api.ErrArg, func(t *flow.Table) {
		t.Counted, t.Rates, t.Net = rows(row(to(1, 1)), row(to(1, 1))), make([]flow.Range, 2), make([]flow.Range, 1)
	})
	add("2 groups at first", api.ErrArg, func(t *flow.Table) { t.Counted[0] = t.Counted[0][:2] })
	add("2 groups at last", api.ErrArg, func(t *flow.Table) { t.Counted[1] = t.Counted[1][:2] })
	add("4 groups at last", api.ErrArg, func(t *flow.Table) { t.Counted[1] = append(t.Counted[1], to(0, 0)) })
	add("5 groups at last", api.ErrArg, func(t *flow.Table) { t.Counted[1] = make([]flow.Range, 5) })
	add("no groups at last", api.ErrArg, func(t *flow.Table) { t.Counted[1] = nil })
	add("no births", api.ErrArg, func(t *flow.Table) { t.Births = nil })
	add("births of 2 censuses", api.ErrArg, func(t *flow.Table) { t.Births = append(t.Births, to(0, 0)) })
	add("a census less", api.ErrArg, func(t *flow.Table) { t.Counted = t.Counted[:1] })
	add("a census more", api.ErrArg, func(t *flow.Table) { t.Counted = append(t.Counted, t.Counted[0]) })
	add("3 rates", api.ErrArg, func(t *flow.Table) { t.Rates = t.Rates[:3] })
	add("5 rates", api.ErrArg, func(t *flow.Table) { t.Rates = append(t.Rates, to(0, 0)) })
	add("no rates", api.ErrArg, func(t *flow.Table) { t.Rates = nil })
	add("2 moves", api.ErrArg, func(t *flow.Table) { t.Net = t.Net[:2] })
	add("4 moves", api.ErrArg, func(t *flow.Table) { t.Net = append(t.Net, to(0, 0)) })
	add("no moves", api.ErrArg, func(t *flow.Table) { t.Net = nil })
	return out
}

// beyond are ranges that are none, or not within this one.
func beyond(low, high int) []flow.Range {
	return row(
		to(low-1, low), to(low-1, high), to(high, high+1), to(low, high+1), to(low-1, low-1), to(high+1, high+1), to(low-1, high+1), to(high, low), to(low+1, low), to(high, high-1), to(high+1, low-1), to(low, low-1), to(high+1, high),
		to(math.MinInt, low), to(low, math.MaxInt), to(math.MinInt, math.MaxInt), to(math.MaxInt, math.MinInt), to(math.MinInt, math.MinInt), to(math.MaxInt, math.MaxInt),
	)
}

// part is where a table has a range, and within which one it has to be.
type part struct {
	at        func(t *flow.Table) *flow.Range
	low, high int
}

func parts() map[string]part {
	return map[string]part{
		"the first count":      {func(t *flow.Table) *flow.Range { return &t.Counted[0][0] }, 0, 500},
		"the last count":       {func(t *flow.Table) *flow.Range { return &t.Counted[1][2] }, 0, 500},
		"a count between":      {func(t *flow.Table) *flow.Range { return &t.Counted[1][0] }, 0, 500},
		"births":               {func(t *flow.Table) *flow.Range { return &t.Births[0] }, 0, 500},
		"the rate of births":   {func(t *flow.Table) *flow.Range { return &t.Rates[0] }, 0, 1000},
		"the last rate":        {func(t *flow.Table) *flow.Range { return &t.Rates[3] }, 0, 1000},
		"the first moves":      {func(t *flow.Table) *flow.Range { return &t.Net[0] }, -50, 50},
		"moves of the last":    {func(t *flow.Table) *flow.Range { return &t.Net[2] }, -50, 50},
		"moves of one between": {func(t *flow.Table) *flow.Range { return &t.Net[1] }, -50, 50},
	}
}

// allWrongTables are those that are not valid, with their errors.
func allWrongTables() map[string]wrongTable {
	out := wrongTables()
	for what, p := range parts() {
		for i, r := range beyond(p.low, p.high) {
			t := example()
			*p.at(&t) = r
			out[what+" "+string(rune('a'+i))] = wrongTable{t, api.ErrArg}
		}
	}
	return out
}

// calls are all calls with a table but CheckTable and ProveTruth: each returns its error, and whether its other results are zero.
func calls(t flow.Table, x flow.Truth, c flow.Cell, births flow.Range) map[string]func() (api.Errno, bool) {
	return map[string]func() (api.Errno, bool){
		"Play": func() (api.Errno, bool) {
			sizes, can, e := flow.Play(t, x)
			return e, len(sizes) == 0 && !can
		},
		"Bounds":      func() (api.Errno, bool) { l, e := flow.Bounds(t); return e, len(l) == 0 },
		"Would":       func() (api.Errno, bool) { r, e := flow.Would(t, c); return e, r == to(0, 0) },
		"Project":     func() (api.Errno, bool) { l, e := flow.Project(t, births); return e, len(l) == 0 },
		"Leave":       func() (api.Errno, bool) { l, e := flow.Leave(t); return e, len(l) == 0 },
		"Fail":        func() (api.Errno, bool) { l, e := flow.Fail(tables(t)); return e, len(l) == 0 },
		"Fail of two": func() (api.Errno, bool) { l, e := flow.Fail(tables(contradicting(), t)); return e, len(l) == 0 },
	}
}

// P7.1 to P7.5: that a table is too long, or not valid otherwise, comes before all else.
func TestWrongTables(t *testing.T) {
	for what, x := range allWrongTables() {
		if e := flow.CheckTable(x.t); e != x.e {
			t.Errorf("CheckTable, %s: %v", what, e)
		}
		if flow.ProveTruth(x.t, story()) || flow.ProveTruth(x.t, flow.Truth{}) {
			t.Errorf("ProveTruth, %s", what)
		}
		for _, c := range cells(cell(0, 0), cell(9, 9), cell(-1, 0)) {
			for _, births := range row(to(0, 50), to(5, 4), to(0, 501)) {
				for _, y := range []flow.Truth{story(), {}} {
					for call, f := range calls(x.t, y, c, births) {
						if e, zero := f(); e != x.e || !zero {
							t.Errorf("%s, %s: %v, not %v; zero: %v", call, what, e, x.e, zero)
						}
					}
				}
			}
		}
	}
}

// P7.1: each end of each range can be as low and as great as the chapter says.
func TestRangesAtTheirLimits(t *testing.T) {
	for what, p := range parts() {
		for _, r := range row(to(p.low, p.low), to(p.low, p.high), to(p.high, p.high), to(p.low, p.low+1)) {
			x := example()
			*p.at(&x) = r
			if e := flow.CheckTable(x); e != api.OK {
				t.Errorf("CheckTable with %v, %s: %v", r, what, e)
			}
		}
	}
}

// wrongTruths are that of the chapter's table, changed so that it has no sizes.
func wrongTruths() map[string]flow.Truth {
	out := map[string]flow.Truth{"nothing": {}}
	add := func(what string, change func(x *flow.Truth)) {
		x := story()
		change(&x)
		out[what] = x
	}
	add("First of none", func(x *flow.Truth) { x.First = nil })
	add("First of 2", func(x *flow.Truth) { x.First = x.First[:2] })
	add("First of 4", func(x *flow.Truth) { x.First = append(x.First, 0) })
	add("no Births", func(x *flow.Truth) { x.Births = nil })
	add("2 Births", func(x *flow.Truth) { x.Births = append(x.Births, 115) })
	add("no Dead", func(x *flow.Truth) { x.Dead = nil })
	add("Dead of none", func(x *flow.Truth) { x.Dead[0] = nil })
	add("Dead of 3", func(x *flow.Truth) { x.Dead[0] = x.Dead[0][:3] })
	add("Dead of 5", func(x *flow.Truth) { x.Dead[0] = append(x.Dead[0], 0) })
	add("Dead of 2 censuses", func(x *flow.Truth) { x.Dead = append(x.Dead, x.Dead[0]) })
	add("no Moved", func(x *flow.Truth) { x.Moved = nil })
	add("Moved of none", func(x *flow.Truth) { x.Moved[0] = nil })
	add("Moved of 2", func(x *flow.Truth) { x.Moved[0] = x.Moved[0][:2] })
	add("Moved of 4", func(x *flow.Truth) { x.Moved[0] = append(x.Moved[0], 0) })
	add("Moved of 2 censuses", func(x *flow.Truth) { x.Moved = append(x.Moved, x.Moved[0]) })
	add("109 births", func(x *flow.Truth) { x.Births[0] = 109 })
	add("121 births", func(x *flow.Truth) { x.Births[0] = 121 })
	add("6 moved", func(x *flow.Truth) { x.Moved[0][1] = 6 })
	add("-6 moved", func(x *flow.Truth) { x.Moved[0][1] = -6 })
	add("births and dead wrong", func(x *flow.Truth) { x.Births[0], x.Dead[0][0] = 121, 0 })
	for what, n := range map[string]int{"-1": -1, "501": 501, "the smallest": math.MinInt, "the greatest": math.MaxInt} {
		for i := range 3 {
			at := " at " + string(rune('0'+i))
			add("First is "+what+at, func(x *flow.Truth) { x.First[i] = n })
			if i != 1 || n != -1 { // one of them can be less
				add("Moved is "+what+at, func(x *flow.Truth) { x.Moved[0][i] = n })
			}
		}
		add("Births are "+what, func(x *flow.Truth) { x.Births[0] = n })
	}
	return out
}

// P7.1: truths that are not those of the table.
func TestWrongTruths(t *testing.T) {
	for what, x := range wrongTruths() {
		for _, y := range tables(example(), contradicting(), impossible()) {
			if sizes, can, e := flow.Play(y, x); len(sizes) != 0 || can || e != api.ErrRange {
				t.Errorf("Play, %s: %v, %v, %v", what, sizes, can, e)
			}
			if flow.ProveTruth(y, x) {
				t.Errorf("ProveTruth, %s", what)
			}
		}
	}
	one := quiet(nil, row(to(3, 5), to(0, 500)))
	for _, x := range []flow.Truth{{}, {First: list(4)}, {First: list(4, 4, 4)}, {First: list(4, 4), Births: list(0)}, {First: list(4, 4), Dead: [][]int{nil}}, {First: list(4, 4), Moved: [][]int{{0, 0}}}, {First: list(-1, 4)}, {First: list(4, 501)}} {
		if sizes, can, e := flow.Play(one, x); len(sizes) != 0 || can || e != api.ErrRange || flow.ProveTruth(one, x) {
			t.Errorf("Play of %v: %v, %v, %v", x, sizes, can, e)
		}
	}
}

// P7.1: any numbers of dead have sizes, but those that are not of the dead cannot be.
func TestAnyDead(t *testing.T) {
	wide := row(to(0, 500), to(0, 500))
	y := quiet(row(to(5, 5), to(5, 5)), wide, wide, wide)
	y.Rates = slices.Repeat(row(to(0, 1000)), 3)
	for _, n := range list(math.MinInt, math.MinInt+1, -1000000, -1, 6, 1000000, math.MaxInt-1, math.MaxInt) {
		for census := range 2 {
			for i := range 3 {
				x := flow.Truth{First: list(5, 5), Births: list(5, 5), Dead: [][]int{{0, 0, 5}, {0, 0, 5}}, Moved: [][]int{{0, 0}, {0, 0}}}
				if n == 6 && i == 2 && census == 1 {
					continue // as many are there then
				}
				x.Dead[census][i] = n
				sizes, can, e := flow.Play(y, x)
				if len(sizes) != 3 || !slices.Equal(sizes[0], x.First) || can || e != api.OK || flow.ProveTruth(y, x) {
					t.Errorf("Play with %d dead: %v, %v, %v", n, sizes, can, e)
				}
			}
		}
	}
}

// P7.3: cells that do not exist, which comes before counts that do not agree.
func TestWrongCells(t *testing.T) {
	for _, c := range cells(cell(-1, 0), cell(0, -1), cell(2, 0), cell(0, 3), cell(1, 3), cell(3, 3), cell(-1, -1), cell(1, -1), cell(math.MinInt, 0), cell(math.MaxInt, 0), cell(0, math.MinInt), cell(0, math.MaxInt), cell(math.MinInt, math.MinInt), cell(math.MaxInt, math.MaxInt)) {
		for _, x := range tables(example(), contradicting(), impossible()) {
			if r, e := flow.Would(x, c); r != to(0, 0) || e != api.ErrRange {
				t.Errorf("Would of %v: %v, %v", c, r, e)
			}
		}
	}
}

// P7.4: births that are no range, or too many, which comes before counts that do not agree.
func TestWrongBirths(t *testing.T) {
	for _, births := range beyond(0, 500) {
		for _, x := range tables(example(), contradicting(), impossible()) {
			if l, e := flow.Project(x, births); len(l) != 0 || e != api.ErrRange {
				t.Errorf("Project with %v: %v, %v", births, l, e)
			}
		}
	}
}

// P7.2 to P7.5: counts that do not agree, and tables of which no truth can be.
func TestNoTruths(t *testing.T) {
	x := impossible()
	for _, c := range cellsOf(x) {
		for _, y := range tables(x, with(x, c, to(0, 500)), with(x, c, to(0, 0))) {
			for call, f := range calls(y, story(), c, to(0, 500)) {
				due := map[bool]api.Errno{true: api.ErrFail, false: api.ErrRange}[call != "Play"]
				if call == "Fail" || call == "Fail of two" {
					continue
				}
				if e, zero := f(); e != due || !zero {
					t.Errorf("%s of %v: %v; zero: %v", call, y, e, zero)
				}
			}
		}
	}
	x = example()
	x.Rates[1], x.Net[1] = to(1000, 1000), to(-9, -1)
	if l, e := flow.Leave(x); len(l) != 0 || e != api.ErrFail {
		t.Errorf("Leave, if all die and some move: %v, %v", l, e)
	}
	x.Net[1].Hi = 0
	if l, e := flow.Leave(x); !slices.Equal(l, cells(cell(1, 1))) || e != api.OK {
		t.Errorf("Leave, if all die: %v, %v", l, e)
	}
}

// P7.5: too many tables, and then the errors of one table after the other.
func TestWrongFails(t *testing.T) {
	long, wrong := flow.Table{Counted: make([][]flow.Range, 5)}, flow.Table{}
	for _, x := range []struct {
		l []flow.Table
		e api.Errno
	}{
		{make([]flow.Table, 11), api.ErrLimit}, {slices.Repeat(tables(example()), 11), api.ErrLimit}, {make([]flow.Table, 1000), api.ErrLimit}, {make([]flow.Table, 10), api.ErrArg},
		{tables(long, wrong), api.ErrLimit}, {tables(wrong, long), api.ErrArg}, {tables(example(), wrong, long), api.ErrArg}, {tables(contradicting(), long, wrong), api.ErrLimit},
		{append(slices.Repeat(tables(example()), 9), wrong), api.ErrArg}, {append(slices.Repeat(tables(example()), 9), long), api.ErrLimit}, {append(slices.Repeat(tables(example()), 9), example()), api.OK}, {append(slices.Repeat(tables(wrong), 9), long), api.ErrArg},
	} {
		if l, e := flow.Fail(x.l); len(l) != 0 || e != x.e {
			t.Errorf("Fail of %d tables: %v, %v, not %v", len(x.l), l, e, x.e)
		}
	}
}
