package round_test

import (
	"math"
	"slices"
	"testing"

	"tithing/api"
	"tithing/round"
)

// wrongTable is not valid, with its error.
type wrongTable struct {
	t round.Table
	e api.Errno
}

// spoilt returns the chapter's table with another count of a cell.
func spoilt(row, column, n int) wrongTable {
	t := example()
	t.Cells[row][column] = n
	return wrongTable{t, api.ErrArg}
}

func wrongTables() map[string]wrongTable {
	one := list(1)
	ten := slices.Repeat(fixes(fix(0, 0, 5)), 10)
	out := map[string]wrongTable{
		"nothing":                   {round.Table{}, api.ErrArg},
		"no rows":                   {table(5), api.ErrArg},
		"empty rows":                {round.Table{Base: 5, Cells: [][]int{}}, api.ErrArg},
		"an empty row":              {table(5, nil), api.ErrArg},
		"five empty rows":           {table(5, nil, list(), nil, nil, nil), api.ErrArg},
		"an empty first row":        {table(5, nil, one), api.ErrArg},
		"an empty last row":         {table(5, one, one, list()), api.ErrArg},
		"a shorter row":             {table(5, list(1, 2, 3), list(1, 2)), api.ErrArg},
		"a longer row":              {table(5, list(1, 2, 3), list(1, 2, 3, 4)), api.ErrArg},
		"a longer last row":         {table(5, one, one, one, one, list(1, 2)), api.ErrArg},
		"6 rows":                    {table(5, one, one, one, one, one, one), api.ErrLimit},
		"6 empty rows":              {table(5, make([][]int, 6)...), api.ErrLimit},
		"1000 rows":                 {table(5, make([][]int, 1000)...), api.ErrLimit},
		"5 columns":                 {table(5, make([]int, 5)), api.ErrLimit},
		"5 columns, last":           {table(5, list(1, 2), list(1, 2), make([]int, 5)), api.ErrLimit},
		"10000 columns":             {table(5, make([]int, 10000)), api.ErrLimit},
		"11 fixes":                  {with(example(), append(ten, fix(1, 1, 0))...), api.ErrLimit},
		"10000 fixes":               {with(example(), slices.Repeat(ten, 1000)...), api.ErrLimit},
		"11 fixes of no cell":       {with(example(), slices.Repeat(fixes(fix(-1, 9, -1)), 11)...), api.ErrLimit},
		"6 rows before the base":    {table(1, one, one, one, one, one, one), api.ErrLimit},
		"5 columns before no rows":  {table(5, nil, make([]int, 5)), api.ErrLimit},
		"5 columns before counts":   {table(5, list(-1), make([]int, 5)), api.ErrLimit},
		"5 columns before the base": {table(101, one, make([]int, 5)), api.ErrLimit},
		"11 fixes before no rows":   {with(table(5), append(ten, fix(0, 0, 5))...), api.ErrLimit},
		"11 fixes before the base":  {with(table(0, one), append(ten, fix(0, 0, 5))...), api.ErrLimit},
	}
	for what, base := range map[string]int{"1": 1, "0": 0, "-1": -1, "-5": -5, "101": 101, "the smallest": math.MinInt, "the greatest": math.MaxInt} {
		out["the base "+what] = wrongTable{table(base, list(3, 4), list(6, 2)), api.ErrArg}
		out["the base of zeros "+what] = wrongTable{table(base, list(0)), api.ErrArg}
	}
	for i := range 4 {
		at := " at " + string(rune('0'+i))
		out["-1"+at] = spoilt(i/2, i%2, -1)
		out["10001"+at] = spoilt(i/2, i%2, 10001)
		out["the smallest"+at] = spoilt(i/2, i%2, math.MinInt)
		out["the greatest"+at] = spoilt(i/2, i%2, math.MaxInt)
	}
	for what, f := range wrongFixes() {
		out[what] = wrongTable{with(example(), f), api.ErrArg}
		out["a last "+what] = wrongTable{with(example(), append(ten[:9:9], f)...), api.ErrArg}
		out["a first "+what] = wrongTable{with(example(), append(fixes(f), ten[:9]...)...), api.ErrArg}
	}
	return out
}

// wrongFixes are none of the chapter's table.
func wrongFixes() map[string]round.Fix {
	return map[string]round.Fix{
		"row -1": fix(-1, 0, 5), "row 2": fix(2, 0, 5), "row 4": fix(4, 0, 5), "column -1": fix(0, -1, 5), "column 2": fix(0, 2, 5), "column 2 at the end": fix(1, 2, 5), "row 2, column 2": fix(2, 2, 5),
		"the smallest row": fix(math.MinInt, 0, 5), "the greatest row": fix(math.MaxInt, 0, 5), "the smallest column": fix(0, math.MinInt, 5), "the greatest column": fix(0, math.MaxInt, 5),
		"value -1": fix(0, 0, -1), "value -5": fix(0, 0, -5), "value 10101": fix(0, 0, 10101), "value 10105": fix(1, 1, 10105), "the smallest value": fix(0, 0, math.MinInt), "the greatest value": fix(0, 0, math.MaxInt),
	}
}

// wrongNumbers are none of the chapter's table.
func wrongNumbers() map[string][][]int {
	out := map[string][][]int{
		"nothing": nil, "empty": {}, "no numbers": rows(nil, nil), "one row": rows(list(5, 5)), "three rows": rows(list(5, 5), list(5, 0), list(0, 0)), "an empty row more": rows(list(5, 5), list(5, 0), nil),
		"a shorter row": rows(list(5, 5), list(5)), "a longer row": rows(list(5, 5), list(5, 0, 0)), "a shorter first row": rows(list(5), list(5, 0)), "an empty row": rows(list(5, 5), nil),
		"a column less": rows(list(5), list(5)), "a column more": rows(list(5, 5, 0), list(5, 0, 0)), "one row of four": rows(list(5, 5, 5, 0)), "four rows of one": rows(list(5), list(5), list(5), list(0)), "10000 rows": make([][]int, 10000), "10000 columns": rows(list(5, 5), make([]int, 10000)),
	}
	for i := range 4 {
		for what, n := range map[string]int{"-1": -1, "10101": 10101, "the smallest": math.MinInt, "the greatest": math.MaxInt} {
			l := rows(list(5, 5), list(5, 0))
			l[i/2][i%2] = n
			out[what+" at "+string(rune('0'+i))] = l
		}
	}
	return out
}

// tableCalls are the calls with a table: each returns its error, and whether its other results are zero.
func tableCalls(t round.Table, numbers [][]int) map[string]func() (api.Errno, bool) {
	return map[string]func() (api.Errno, bool){
		"Change": func() (api.Errno, bool) { n, e := round.Change(t, numbers); return e, n == 0 },
		"Best":   func() (api.Errno, bool) { l, n, e := round.Best(t); return e, len(l) == 0 && n == 0 },
		"Ways":   func() (api.Errno, bool) { n, e := round.Ways(t); return e, n == 0 },
		"Span":   func() (api.Errno, bool) { l, e := round.Span(t); return e, len(l) == 0 },
	}
}

// P9.1: the error of the table, or OK.
func TestCheckTable(t *testing.T) {
	for what, x := range wrongTables() {
		if e := round.CheckTable(x.t); e != x.e {
			t.Errorf("%s: %v, not %v", what, e, x.e)
		}
	}
	zeros := make([]int, 4)
	for what, x := range map[string]round.Table{
		"the example":             example(),
		"one cell":                table(2, list(0)),
		"the greatest":            table(100, list(10000)),
		"one row":                 table(99, list(0, 1, 9999, 10000)),
		"one column":              table(50, list(0), list(1), list(10000), list(2), list(3)),
		"5 rows and 4 columns":    table(100, zeros, zeros, zeros, zeros, list(1, 10, 100, 1000)),
		"a fix of the last cell":  with(table(3, zeros, zeros, zeros, zeros, zeros), fix(4, 3, 0)),
		"a fix to 0":              with(example(), fix(0, 0, 0)),
		"a fix to 10100":          with(example(), fix(1, 1, 10100)),
		"a fix to no multiple":    with(example(), fix(1, 1, 7)),
		"10 fixes":                with(example(), slices.Repeat(fixes(fix(0, 0, 5)), 10)...),
		"two fixes of one cell":   with(example(), fix(0, 0, 0), fix(0, 0, 5)),
		"fixes that do not rise":  with(example(), fix(1, 1, 0), fix(0, 0, 5)),
		"empty fixes":             {Base: 5, Cells: rows(list(3)), Fixes: fixes()},
		"a base above all counts": table(100, list(1, 2), list(3, 4)),
	} {
		if e := round.CheckTable(x); e != api.OK {
			t.Errorf("%s: %v", what, e)
		}
		checkAnswer(t, x, tried(x))
		if n, e := round.Change(x, x.Cells); n != 0 || e != api.OK {
			t.Errorf("Change, %s: %d, %v", what, n, e)
		}
	}
}

// P9.1 to P9.3, P9.6: the error of the table is that of each call, before that of the numbers, and nothing is proved of it.
func TestWrongTables(t *testing.T) {
	best := rows(list(5, 5), list(5, 0))
	for what, x := range wrongTables() {
		for _, l := range [][][]int{nil, best, x.t.Cells, rows(list(-1)), make([][]int, 6)} {
			for call, do := range tableCalls(x.t, l) {
				if e, zero := do(); e != x.e || !zero {
					t.Errorf("%s, %s: %v, not %v; zero: %v", call, what, e, x.e, zero)
				}
			}
			if round.ProveRounding(x.t, l, math.MaxInt) {
				t.Errorf("ProveRounding, %s", what)
			}
		}
	}
}

// P9.1, P9.6: numbers that are none of the table.
func TestWrongNumbers(t *testing.T) {
	for what, l := range wrongNumbers() {
		for _, x := range []round.Table{example(), with(example(), fix(1, 0, 15))} {
			if n, e := round.Change(x, l); n != 0 || e != api.ErrRange {
				t.Errorf("Change, %s: %d, %v", what, n, e)
			}
			if round.ProveRounding(x, l, math.MaxInt) {
				t.Errorf("ProveRounding, %s", what)
			}
		}
	}
}

// P9.4: the base comes before the number.
func TestWrongLearn(t *testing.T) {
	wild := list(math.MinInt, -10100, -100, -5, -1, 0, 1, 5, 10100, 10101, 1<<32, math.MaxInt)
	for _, base := range list(math.MinInt, -5, -1, 0, 1, 101, 102, 10000, math.MaxInt) {
		for _, n := range wild {
			if r, e := round.Learn(base, n); r != to(0, 0) || e != api.ErrArg {
				t.Errorf("Learn of %d to the base %d: %v, %v", n, base, r, e)
			}
		}
	}
	for _, base := range list(2, 3, 5, 7, 50, 99, 100) {
		for n := -2 * base; n <= 10100+2*base; n++ {
			r, e := round.Learn(base, n)
			if is := 0 <= n && n <= 10100 && n%base == 0; is != (e == api.OK) || !is && (r != to(0, 0) || e != api.ErrRange) {
				t.Errorf("Learn of %d to the base %d: %v, %v", n, base, r, e)
			}
		}
		for _, n := range list(math.MinInt, math.MaxInt, math.MinInt/base*base, math.MaxInt/base*base) {
			if r, e := round.Learn(base, n); r != to(0, 0) || e != api.ErrRange {
				t.Errorf("Learn of %d to the base %d: %v, %v", n, base, r, e)
			}
		}
	}
}

// P9.5: each row of errors, in their order.
func TestWrongDivide(t *testing.T) {
	for what, x := range map[string]struct {
		weights []int
		total   int
		want    api.Errno
	}{
		"13 weights":                        {slices.Repeat(list(1), 13), 5, api.ErrLimit},
		"13 weights before weights":         {slices.Repeat(list(-1), 13), 5, api.ErrLimit},
		"13 weights before the total":       {slices.Repeat(list(1), 13), -1, api.ErrLimit},
		"13 weights before their sum":       {make([]int, 13), 5, api.ErrLimit},
		"10000 weights":                     {make([]int, 10000), 100001, api.ErrLimit},
		"a weight -1":                       {list(-1), 5, api.ErrRange},
		"a last weight -1":                  {append(slices.Repeat(list(1), 11), -1), 5, api.ErrRange},
		"a weight 10001":                    {list(1, 10001), 5, api.ErrRange},
		"the smallest weight":               {list(math.MinInt, 1), 5, api.ErrRange},
		"the greatest weight":               {list(1, math.MaxInt), 5, api.ErrRange},
		"weights whose sum is 0":            {list(-1, 1), 5, api.ErrRange},
		"weights whose sum wraps around":    {list(math.MinInt, math.MinInt), 5, api.ErrRange},
		"the total -1":                      {list(1, 2), -1, api.ErrRange},
		"the total 100001":                  {list(1, 2), 100001, api.ErrRange},
		"the smallest total":                {list(1, 2), math.MinInt, api.ErrRange},
		"the greatest total":                {list(1, 2), math.MaxInt, api.ErrRange},
		"the total before the sum":          {list(0, 0), -1, api.ErrRange},
		"the total before no weights":       {nil, 100001, api.ErrRange},
		"no weights":                        {nil, 5, api.ErrNone},
		"empty weights":                     {list(), 5, api.ErrNone},
		"no weights for nothing":            {nil, 0, api.ErrNone},
		"weights 0":                         {list(0, 0), 5, api.ErrNone},
		"weights 0 for nothing":             {list(0), 0, api.ErrNone},
		"12 weights 0":                      {make([]int, 12), 100000, api.ErrNone},
		"12 weights as great as can be":     {slices.Repeat(list(10000), 12), 100000, api.OK},
		"one weight, the others 0":          {append(make([]int, 11), 1), 100000, api.OK},
		"the greatest weight, and 0 of all": {list(10000), 0, api.OK},
	} {
		l, e := round.Divide(x.weights, x.total)
		if e != x.want || (len(l) == len(x.weights)) != (e == api.OK || len(x.weights) == 0) || e != api.OK && len(l) > 0 {
			t.Errorf("%s: %v, %v, not %v", what, l, e, x.want)
		}
	}
}
