package hide_test

import (
	"math"
	"slices"
	"testing"

	"tithing/api"
	"tithing/hide"
)

// wrongTable is not valid, with its error.
type wrongTable struct {
	t hide.Table
	e api.Errno
}

// spoilt returns the chapter's table with another value of a cell.
func spoilt(c hide.Cell, n int) wrongTable {
	t := example()
	t.Rows[c.Row][c.Column] = n
	return wrongTable{t, api.ErrArg}
}

func wrongTables() map[string]wrongTable {
	out := map[string]wrongTable{
		"nothing":                  {hide.Table{}, api.ErrArg},
		"no rows":                  {table(20), api.ErrArg},
		"empty rows":               {hide.Table{Rows: [][]int{}, Cap: 20}, api.ErrArg},
		"an empty row":             {table(20, nil), api.ErrArg},
		"three empty rows":         {table(20, nil, list(), nil), api.ErrArg},
		"an empty first row":       {table(20, nil, list(1)), api.ErrArg},
		"an empty last row":        {table(20, list(1), list(2), list()), api.ErrArg},
		"a shorter row":            {table(20, list(1, 2, 3), list(1, 2)), api.ErrArg},
		"a longer row":             {table(20, list(1, 2, 3), list(1, 2, 3, 4)), api.ErrArg},
		"a longer last row":        {table(20, list(1), list(1), list(1, 2)), api.ErrArg},
		"4 rows":                   {table(20, list(1), list(1), list(1), list(1)), api.ErrLimit},
		"4 empty rows":             {table(20, nil, nil, nil, nil), api.ErrLimit},
		"1000 rows":                {table(20, make([][]int, 1000)...), api.ErrLimit},
		"5 columns":                {table(20, make([]int, 5)), api.ErrLimit},
		"5 columns, last":          {table(20, list(1, 2), list(1, 2), make([]int, 5)), api.ErrLimit},
		"10000 columns":            {table(20, make([]int, 10000)), api.ErrLimit},
		"4 rows before the cap":    {table(-1, list(1), list(1), list(1), list(1)), api.ErrLimit},
		"5 columns before values":  {table(20, list(-1), make([]int, 5)), api.ErrLimit},
		"5 columns before no rows": {table(20, nil, make([]int, 5)), api.ErrLimit},
		"5 columns before the cap": {table(1001, list(0), make([]int, 5)), api.ErrLimit},
		"the cap 1001":             {table(1001, list(1)), api.ErrArg},
		"the cap -1":               {table(-1, list(0)), api.ErrArg},
		"the cap -1, and cells -1": {table(-1, list(-1)), api.ErrArg},
		"the smallest cap":         {table(math.MinInt, list(0)), api.ErrArg},
		"the greatest cap":         {table(math.MaxInt, list(0)), api.ErrArg},
		"1 above the cap 0":        {table(0, list(1)), api.ErrArg},
		"1001 above the cap 1000":  {table(1000, list(1001)), api.ErrArg},
	}
	for i, c := range cellsOf(example()) {
		at := " at " + string(rune('0'+i))
		out["-1"+at] = spoilt(c, -1)
		out["above the cap"+at] = spoilt(c, 21)
		out["the smallest"+at] = spoilt(c, math.MinInt)
		out["the greatest"+at] = spoilt(c, math.MaxInt)
	}
	return out
}

func wrongHidden() map[string][]hide.Cell {
	out := map[string][]hide.Cell{
		"columns that fall":    cells(at(0, 1), at(0, 0)),
		"rows that fall":       cells(at(1, 0), at(0, 0)),
		"rows fall, columns":   cells(at(1, 0), at(0, 1)),
		"rows fall, the last":  cells(at(0, 0), at(2, 0), at(1, 1)),
		"columns fall, middle": cells(at(0, 0), at(1, 2), at(1, 1), at(2, 0)),
		"twice":                cells(at(1, 1), at(1, 1)),
		"twice at the end":     cells(at(0, 0), at(1, 1), at(1, 1)),
		"10000 times":          slices.Repeat(cells(at(1, 1)), 10000),
		"all, and one more":    append(cellsOf(example()), at(2, 3)),
		"one before all":       append(cells(at(0, -1)), cellsOf(example())...),
	}
	for what, c := range noCells() {
		out[what] = cells(c)
		out[what+" at the end"] = append(square(0, 1, 0, 1), c)
		out[what+" at the beginning"] = append(cells(c), square(1, 2, 0, 1)...)
	}
	return out
}

// noCells are none of the chapter's table.
func noCells() map[string]hide.Cell {
	return map[string]hide.Cell{
		"row -1": at(-1, 0), "row 3": at(3, 0), "column -1": at(0, -1), "column 3": at(0, 3), "column 3 at the end": at(2, 3), "row 3, column 3": at(3, 3),
		"the smallest row": at(math.MinInt, 0), "the greatest row": at(math.MaxInt, 0), "the smallest column": at(0, math.MinInt), "the greatest column": at(0, math.MaxInt),
	}
}

// wrongRequest is not valid, with its error.
type wrongRequest struct {
	l []hide.Request
	e api.Errno
}

func wrongRequests() map[string]wrongRequest {
	fine := ask(at(0, 0), 0, 1000)
	out := map[string]wrongRequest{
		"9 requests":                {slices.Repeat(asks(fine), 9), api.ErrLimit},
		"10000 requests":            {slices.Repeat(asks(fine), 10000), api.ErrLimit},
		"9 requests that are wrong": {slices.Repeat(asks(ask(at(-1, 9), -1, 1001)), 9), api.ErrLimit},
	}
	for what, n := range map[string]int{"-1": -1, "1001": 1001, "the smallest": math.MinInt, "the greatest": math.MaxInt} {
		for what, q := range map[string]hide.Request{"Below " + what: ask(at(1, 1), n, 0), "Above " + what: ask(at(1, 1), 0, n)} {
			out[what] = wrongRequest{asks(q), api.ErrRange}
			out["a last "+what] = wrongRequest{append(slices.Repeat(asks(fine), 7), q), api.ErrRange}
		}
	}
	for what, c := range noCells() {
		out[what] = wrongRequest{asks(ask(c, 0, 0)), api.ErrRange}
		out["a last "+what] = wrongRequest{append(slices.Repeat(asks(fine), 7), ask(c, 0, 0)), api.ErrRange}
	}
	return out
}

// requestCalls are the calls with requests, hiddenCalls those with hidden cells: each returns its error, and whether its other result is zero.
func requestCalls(t hide.Table, hidden []hide.Cell, l []hide.Request) map[string]func() (api.Errno, bool) {
	return map[string]func() (api.Errno, bool){
		"Exposed": func() (api.Errno, bool) { n, e := hide.Exposed(t, hidden, l); return e, n == 0 },
		"Hide":    func() (api.Errno, bool) { l, e := hide.Hide(t, hidden, l); return e, len(l) == 0 },
	}
}

func hiddenCalls(t hide.Table, hidden []hide.Cell, c hide.Cell, l []hide.Request) map[string]func() (api.Errno, bool) {
	out := requestCalls(t, hidden, l)
	out["Ranges"] = func() (api.Errno, bool) { l, e := hide.Ranges(t, hidden); return e, len(l) == 0 }
	out["Show low"] = func() (api.Errno, bool) { l, e := hide.Show(t, hidden, c, false); return e, len(l) == 0 }
	out["Show high"] = func() (api.Errno, bool) { l, e := hide.Show(t, hidden, c, true); return e, len(l) == 0 }
	return out
}

func checkErrors(t *testing.T, what string, want api.Errno, calls map[string]func() (api.Errno, bool)) {
	t.Helper()
	for call, do := range calls {
		if e, zero := do(); e != want || !zero {
			t.Errorf("%s, %s: %v, not %v; zero: %v", call, what, e, want, zero)
		}
	}
}

// P8.1: the error of the table, or OK.
func TestCheckTable(t *testing.T) {
	for what, x := range wrongTables() {
		if e := hide.CheckTable(x.t); e != x.e {
			t.Errorf("%s: %v, not %v", what, e, x.e)
		}
	}
	for what, x := range map[string]hide.Table{
		"the example":          example(),
		"one cell":             table(5, list(3)),
		"0 of 0":               table(0, list(0)),
		"1000 of 1000":         table(1000, list(1000)),
		"one row":              table(5, list(0, 1, 4, 5)),
		"one column":           table(5, list(0), list(1), list(5)),
		"3 rows and 4 columns": table(1000, make([]int, 4), make([]int, 4), list(1, 10, 100, 1000)),
	} {
		if e := hide.CheckTable(x); e != api.OK {
			t.Errorf("%s: %v", what, e)
		}
		if l, e := hide.Ranges(x, nil); !same(l, alone(x)) || e != api.OK {
			t.Errorf("Ranges, %s: %v, %v", what, l, e)
		}
	}
}

// P8.1 to P8.5: the error of the table is that of each call, before those of all else, and nothing is proved of it.
func TestWrongTables(t *testing.T) {
	for what, x := range wrongTables() {
		for _, hidden := range [][]hide.Cell{nil, square(0, 1, 0, 1), cells(at(0, 0)), cells(at(-1, 9)), cells(at(1, 1), at(0, 0))} {
			for _, l := range [][]hide.Request{nil, asks(ask(at(0, 0), 6, 0)), asks(ask(at(-1, 0), 0, 0)), make([]hide.Request, 9)} {
				for _, c := range cells(at(0, 0), at(3, 0), at(0, math.MaxInt)) {
					checkErrors(t, what, x.e, hiddenCalls(x.t, hidden, c, l))
				}
			}
			if hide.ProveCandidate(x.t, hidden, x.t.Rows) || hide.ProveCandidate(x.t, hidden, nil) || hide.ProveCandidate(x.t, hidden, example().Rows) {
				t.Errorf("ProveCandidate, %s", what)
			}
		}
	}
}

// P8.1 to P8.5: the error of hidden cells comes before those of a cell, and of requests.
func TestWrongHidden(t *testing.T) {
	for what, hidden := range wrongHidden() {
		for _, l := range [][]hide.Request{nil, asks(ask(at(0, 0), 6, 0)), asks(ask(at(-1, 0), 0, 0)), make([]hide.Request, 9)} {
			for _, c := range cells(at(0, 0), at(3, 0)) {
				checkErrors(t, what, api.ErrRange, hiddenCalls(example(), hidden, c, l))
			}
		}
		if hide.ProveCandidate(example(), hidden, example().Rows) {
			t.Errorf("ProveCandidate, %s", what)
		}
	}
	// What is a cell of one table is none of another.
	for _, x := range []struct {
		t    hide.Table
		c    hide.Cell
		want api.Errno
	}{{table(5, list(1, 2)), at(0, 1), api.OK}, {table(5, list(1), list(2)), at(0, 1), api.ErrRange}, {table(5, list(1), list(2)), at(1, 0), api.OK}, {table(5, list(1, 2)), at(1, 0), api.ErrRange}, {table(5, make([]int, 4), make([]int, 4), make([]int, 4)), at(2, 3), api.OK}, {table(5, make([]int, 4), make([]int, 4), make([]int, 4)), at(3, 2), api.ErrRange}} {
		_, e := hide.Ranges(x.t, cells(x.c))
		_, e2 := hide.Show(x.t, nil, x.c, true)
		_, e3 := hide.Hide(x.t, nil, asks(ask(x.c, 0, 0)))
		if e != x.want || e2 != x.want || e3 != x.want {
			t.Errorf("%v of %v: %v, %v, %v, not %v", x.c, x.t, e, e2, e3, x.want)
		}
	}
}

// P8.3: cells that Show does not know.
func TestWrongShow(t *testing.T) {
	for what, c := range noCells() {
		for _, p := range fixed()[:12] {
			for _, high := range []bool{false, true} {
				if l, e := hide.Show(p.t, p.hidden, c, high); len(l) != 0 || e != api.ErrRange {
					t.Errorf("%s of %v: %v, %v", what, p, l, e)
				}
			}
		}
	}
}

// P8.4, P8.5: the error of requests comes before what they lead to.
func TestWrongRequests(t *testing.T) {
	for what, x := range wrongRequests() {
		for _, hidden := range [][]hide.Cell{nil, square(0, 1, 0, 1), cellsOf(example())} {
			checkErrors(t, what, x.e, requestCalls(example(), hidden, x.l))
			impossible := append(asks(ask(at(0, 0), 6, 0)), x.l...)
			checkErrors(t, what+", after an impossible one", errorAfterOne(x), requestCalls(example(), hidden, impossible))
		}
	}
	for _, l := range [][]hide.Request{slices.Repeat(asks(ask(at(0, 0), 0, 0)), 8), asks(ask(at(2, 2), 0, 0)), make([]hide.Request, 8)} {
		checkErrors(t, "satisfied", api.ErrNone, map[string]func() (api.Errno, bool){"Exposed": requestCalls(example(), nil, l)["Exposed"]})
		if set, e := hide.Hide(example(), nil, l); len(set) != 0 || e != api.OK {
			t.Errorf("Hide for %v: %v, %v", l, set, e)
		}
	}
}

// errorAfterOne is the error of the requests with one more: 8 become 9.
func errorAfterOne(x wrongRequest) api.Errno {
	if len(x.l) >= 8 {
		return api.ErrLimit
	}
	return x.e
}

// P8.4: all requests are satisfied.
func TestNotExposed(t *testing.T) {
	for what, x := range map[string]struct {
		hidden []hide.Cell
		l      []hide.Request
	}{
		"no requests":            {nil, nil},
		"no requests, all":       {cellsOf(example()), nil},
		"just satisfied":         {square(0, 1, 0, 1), asks(ask(at(0, 0), 5, 1), ask(at(0, 1), 1, 5), ask(at(1, 0), 1, 5), ask(at(1, 1), 5, 1))},
		"requests for nothing":   {nil, asks(ask(at(0, 0), 0, 0), ask(at(2, 2), 0, 0))},
		"8 requests of one cell": {ring(), slices.Repeat(asks(ask(at(0, 0), 5, 1)), 8)},
	} {
		if n, e := hide.Exposed(example(), x.hidden, x.l); n != 0 || e != api.ErrNone {
			t.Errorf("%s: %d, %v", what, n, e)
		}
	}
}

// P8.5: no set is sufficient.
func TestNoSet(t *testing.T) {
	for what, x := range map[string]struct {
		t hide.Table
		q hide.Request
	}{
		"below 0":              {example(), ask(at(0, 0), 6, 0)},
		"above the row":        {example(), ask(at(0, 0), 0, 5)},
		"above the column":     {table(20, list(5, 9), list(2, 9)), ask(at(0, 0), 0, 3)},
		"above the cap":        {table(9, list(5, 5), list(5, 5)), ask(at(0, 0), 0, 5)},
		"one row":              {table(9, list(5, 5, 5, 5)), ask(at(0, 1), 0, 1)},
		"one column":           {table(9, list(5), list(5), list(5)), ask(at(0, 0), 1, 0)},
		"one cell":             {table(9, list(5)), ask(at(0, 0), 1, 0)},
		"all cells at the cap": {table(9, list(9, 9), list(9, 9)), ask(at(0, 0), 1, 0)},
		"all cells 0":          {table(9, list(0, 0), list(0, 0)), ask(at(0, 0), 0, 1)},
		"the greatest request": {table(1000, list(999, 1), list(1, 999)), ask(at(0, 1), 0, 1000)},
	} {
		for _, hidden := range [][]hide.Cell{nil, cells(at(0, 0)), cellsOf(x.t)} {
			for _, l := range [][]hide.Request{asks(x.q), asks(ask(at(0, 0), 0, 0), x.q), slices.Repeat(asks(x.q), 8)} {
				if set, e := hide.Hide(x.t, hidden, l); len(set) != 0 || e != api.ErrSecret {
					t.Errorf("%s, %v hidden: %v, %v", what, hidden, set, e)
				}
			}
		}
	}
}
