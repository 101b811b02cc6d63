package hide_test

import (
	"math"
	"slices"
	"testing"

	"tithing/api"
	"tithing/hide"
)

// checkRanges reports a fault if the ranges are not those, or Show does not show them.
func checkRanges(t *testing.T, p publication, want [][]hide.Range) {
	t.Helper()
	if l := rangesOf(t, p); !same(l, want) {
		t.Fatalf("Ranges of %v: %v, not %v", p, l, want)
	}
	for _, c := range cellsOf(p.t) {
		r := want[c.Row][c.Column]
		for high, end := range map[bool]int{false: r.Lo, true: r.Hi} {
			l, e := hide.Show(p.t, p.hidden, c, high)
			if e != api.OK || !isCandidate(p, l) || valueOf(l, c) != end || !hide.ProveCandidate(p.t, p.hidden, l) {
				t.Fatalf("Show of %v of %v, %v: %v, %v; the range is %v", c, p, high, l, e, r)
			}
		}
	}
}

// isCandidate tells what the chapter defines as a candidate.
func isCandidate(p publication, l [][]int) bool {
	if len(l) != len(p.t.Rows) {
		return false
	}
	columns, columns2 := map[int]int{}, map[int]int{}
	for r, row := range p.t.Rows {
		if len(l[r]) != len(row) {
			return false
		}
		sum, sum2 := 0, 0
		for c, n := range l[r] {
			if n < 0 || n > p.t.Cap || n != row[c] && !slices.Contains(p.hidden, at(r, c)) {
				return false
			}
			sum, sum2 = sum+row[c], sum2+n
			columns[c] += row[c]
			columns2[c] += n
		}
		if sum != sum2 {
			return false
		}
	}
	for c, sum := range columns {
		if columns2[c] != sum {
			return false
		}
	}
	return true
}

// P8.2 to P8.5: the chapter's examples.
func TestExamples(t *testing.T) {
	p := publication{example(), square(0, 1, 0, 1)}
	checkRanges(t, p, [][]hide.Range{ranges(to(0, 6), to(0, 6), to(3, 3)), ranges(to(1, 7), to(3, 9), to(4, 4)), ranges(to(6, 6), to(0, 0), to(7, 7))})
	// Only one candidate has this end.
	if l, e := hide.Show(p.t, p.hidden, at(0, 0), true); !same(l, rows(list(6, 0, 3), list(1, 9, 4), list(6, 0, 7))) || e != api.OK {
		t.Errorf("Show: %v, %v", l, e)
	}
	if n, e := hide.Exposed(p.t, p.hidden, asks(ask(at(0, 0), 3, 1), ask(at(1, 1), 2, 2))); n != 1 || e != api.OK {
		t.Errorf("Exposed: %d, %v", n, e)
	}
	first := cells(at(0, 0))
	if l, e := hide.Hide(p.t, first, asks(ask(at(0, 0), 1, 1))); !slices.Equal(l, square(0, 1, 0, 1)) || e != api.OK {
		t.Errorf("Hide: %v, %v", l, e)
	}
	if l, e := hide.Hide(p.t, first, asks(ask(at(0, 0), 3, 2))); !slices.Equal(l, square(0, 1, 0, 2)) || e != api.OK {
		t.Errorf("Hide: %v, %v", l, e)
	}
	checkRanges(t, publication{p.t, square(0, 1, 0, 2)}, [][]hide.Range{ranges(to(1, 7), to(1, 1), to(1, 7)), ranges(to(0, 6), to(8, 8), to(0, 6)), ranges(to(6, 6), to(0, 0), to(7, 7))})
}

// P8.2, P8.3: publications whose ranges are plain.
func TestPlainRanges(t *testing.T) {
	x := example()
	checkRanges(t, publication{x, nil}, alone(x))
	checkRanges(t, publication{x, cells(at(1, 1))}, alone(x))
	checkRanges(t, publication{x, cells(at(0, 0), at(0, 1), at(0, 2))}, alone(x))
	checkRanges(t, publication{x, cells(at(0, 0), at(1, 1))}, alone(x))
	// 0/0, 1/1 and 2/2 move together, and against the others.
	checkRanges(t, publication{x, ring()}, [][]hide.Range{ranges(to(0, 6), to(0, 6), to(3, 3)), ranges(to(2, 2), to(3, 9), to(3, 9)), ranges(to(5, 11), to(0, 0), to(2, 8))})
	// The cap is in the way.
	x = table(9, list(4, 5), list(7, 0))
	checkRanges(t, publication{x, cellsOf(x)}, [][]hide.Range{ranges(to(4, 9), to(0, 5)), ranges(to(2, 7), to(0, 5))})
	x = table(5, list(4, 5), list(5, 4))
	checkRanges(t, publication{x, cellsOf(x)}, [][]hide.Range{ranges(to(4, 5), to(4, 5)), ranges(to(4, 5), to(4, 5))})
	// Each cell can be the one of its row and its column.
	x = table(1, list(1, 0, 0), list(0, 1, 0), list(0, 0, 1))
	checkRanges(t, publication{x, cellsOf(x)}, [][]hide.Range{ranges(to(0, 1), to(0, 1), to(0, 1)), ranges(to(0, 1), to(0, 1), to(0, 1)), ranges(to(0, 1), to(0, 1), to(0, 1))})
	x = table(1000, list(1, 2, 3, 4), list(4, 3, 2, 1))
	checkRanges(t, publication{x, cellsOf(x)}, [][]hide.Range{ranges(to(0, 5), to(0, 5), to(0, 5), to(0, 5)), ranges(to(0, 5), to(0, 5), to(0, 5), to(0, 5))})
	// Two circles apart: none goes through the cell 2/0, and 0/2 is bound to its own one.
	x = table(1000, list(10, 20, 30, 40), list(5, 6, 7, 8), list(1, 2, 3, 4))
	checkRanges(t, publication{x, append(square(0, 1, 0, 1), at(2, 0))}, [][]hide.Range{ranges(to(4, 15), to(15, 26), to(30, 30), to(40, 40)), ranges(to(0, 11), to(0, 11), to(7, 7), to(8, 8)), ranges(to(1, 1), to(2, 2), to(3, 3), to(4, 4))})
	checkRanges(t, publication{x, cells(at(0, 0), at(0, 1), at(0, 2), at(0, 3), at(1, 0), at(1, 1), at(2, 2), at(2, 3))}, [][]hide.Range{ranges(to(4, 15), to(15, 26), to(26, 33), to(37, 44)), ranges(to(0, 11), to(0, 11), to(7, 7), to(8, 8)), ranges(to(1, 1), to(2, 2), to(0, 7), to(0, 7))})
}

// P8.1 to P8.3, P8.6, P8.7: all candidates are tried. They are in the ranges, and so is each number between the ends.
func TestByDefinition(t *testing.T) {
	moving, still, many := 0, 0, 0
	forPublications(t, 4000, list(0, 1, 2, 3, 4, 5), func(t *testing.T, d *dice, p publication) {
		all := rangesOf(t, p)
		seen := map[hide.Cell]map[int]bool{}
		for _, c := range cellsOf(p.t) {
			seen[c] = map[int]bool{}
		}
		found := false
		forCandidates(p.t, p.hidden, func(l [][]int) {
			for _, c := range cellsOf(p.t) {
				seen[c][valueOf(l, c)] = true
			}
			found = found || same(l, p.t.Rows)
			if many%7 == 0 && !hide.ProveCandidate(p.t, p.hidden, l) {
				t.Errorf("ProveCandidate of %v: not %v", p, l)
			}
			many++
		})
		if !found {
			t.Errorf("the table is no candidate of %v", p)
		}
		for _, c := range cellsOf(p.t) {
			r := all[c.Row][c.Column]
			for n := range p.t.Cap + 1 {
				if is := r.Lo <= n && n <= r.Hi; seen[c][n] != is {
					t.Errorf("Ranges of %v: %v; %d of %v: %v", p, all, n, c, seen[c][n])
				}
			}
			if r.Lo < r.Hi {
				moving++
			} else {
				still++
			}
		}
		if want := triedRanges(p.t, p.hidden); !same(cutRanges(p.t, p.hidden), want) {
			t.Errorf("the cuts of %v are wrong: %v, not %v", p, cutRanges(p.t, p.hidden), want)
		}
	})
	if moving < 2000 || still < 2000 || many < 50000 {
		t.Errorf("only %d cells have several values, and %d one, in %d candidates", moving, still, many)
	}
}

// P8.2, P8.3: ranges of great tables, by the cuts that bound them.
func TestByCuts(t *testing.T) {
	bounded := map[string]int{}
	forPublications(t, 2000, list(4, 9, 20, 100, 1000, 1000), func(t *testing.T, d *dice, p publication) {
		want := cutRanges(p.t, p.hidden)
		checkRanges(t, p, want)
		for _, c := range p.hidden {
			switch r := want[c.Row][c.Column]; {
			case r.Lo == r.Hi:
				bounded["both"]++
			case r.Lo > 0 && r.Hi < p.t.Cap:
				bounded["by others"]++
			case r.Lo == 0:
				bounded["by 0"]++
			default:
				bounded["by the cap"]++
			}
		}
	})
	for what, many := range bounded {
		if many < 300 {
			t.Errorf("only so many hidden cells are bounded, %s: %d", what, many)
		}
	}
}

// P8.7: each number between the ends of a range, in tables of greater numbers.
func TestNoGaps(t *testing.T) {
	inner := 0
	forPublications(t, 300, list(10, 20, 30), func(t *testing.T, d *dice, p publication) {
		p.hidden = slices.DeleteFunc(p.hidden, func(c hide.Cell) bool { return c.Row == 2 && c.Column > 1 || c.Column == 3 })
		seen := map[hide.Cell]map[int]bool{}
		for _, c := range p.hidden {
			seen[c] = map[int]bool{}
		}
		forCandidates(p.t, p.hidden, func(l [][]int) {
			for _, c := range p.hidden {
				seen[c][valueOf(l, c)] = true
			}
		})
		for _, c := range p.hidden {
			r := rangesOf(t, p)[c.Row][c.Column]
			if !seen[c][r.Lo] || !seen[c][r.Hi] || len(seen[c]) != r.Hi-r.Lo+1 {
				t.Errorf("Ranges of %v: %v is %v, not %v", p, c, r, seen[c])
			}
			inner += max(0, r.Hi-r.Lo-1)
		}
	})
	if inner < 1000 {
		t.Errorf("only %d numbers are between ends", inner)
	}
}

// P8.1: all rows of few small numbers are tried, with wrong ones.
func TestProveCandidate(t *testing.T) {
	right := 0
	for _, x := range []hide.Table{table(2, list(1, 0), list(2, 1)), table(1, list(1, 1), list(0, 1)), table(0, list(0, 0), list(0, 0)), table(3, list(0, 3), list(3, 0))} {
		for bits := range 16 {
			p := publication{x, members(bits, cellsOf(x))}
			for n := range 6 * 6 * 6 * 6 {
				l := rows(list(n%6-1, n/6%6-1), list(n/36%6-1, n/216-1))
				is := isCandidate(p, l)
				if hide.ProveCandidate(p.t, p.hidden, l) != is {
					t.Errorf("ProveCandidate of %v, %v: %v", p, l, !is)
				}
				if is {
					right++
				}
			}
		}
	}
	if right < 64 {
		t.Errorf("only %d are candidates", right)
	}
}

// P8.1: rows of another shape, and with numbers that nothing has.
func TestWrongRows(t *testing.T) {
	x := example()
	for what, l := range map[string][][]int{
		"nothing":               nil,
		"no cells":              {nil, nil, nil},
		"two rows":              x.Rows[:2],
		"four rows":             append(copyOfRows(x.Rows), list(0, 0, 0)),
		"an empty row more":     append(copyOfRows(x.Rows), nil),
		"a shorter row":         rows(list(5, 1, 3), list(2, 8), list(6, 0, 7)),
		"a longer row":          rows(list(5, 1, 3), list(2, 8, 4, 0), list(6, 0, 7)),
		"a column less":         rows(list(5, 1), list(2, 8), list(6, 0)),
		"a column more":         rows(list(5, 1, 3, 0), list(2, 8, 4, 0), list(6, 0, 7, 0)),
		"6 columns":             rows(list(5, 1, 3, 0, 0, 0), list(2, 8, 4, 0, 0, 0), list(6, 0, 7, 0, 0, 0)),
		"rows exchanged":        rows(list(2, 8, 4), list(5, 1, 3), list(6, 0, 7)),
		"rows and columns":      rows(list(5, 2, 6), list(1, 8, 0), list(3, 4, 7)),
		"below 0":               rows(list(7, -1, 3), list(0, 10, 4), list(6, 0, 7)),
		"sums of rows":          rows(list(6, 1, 3), list(1, 8, 4), list(6, 0, 7)),
		"sums of columns":       rows(list(6, 0, 3), list(2, 8, 4), list(6, 0, 7)),
		"the last sum of rows":  rows(list(5, 1, 3), list(3, 8, 4), list(5, 0, 7)),
		"the last sum":          rows(list(5, 1, 4), list(2, 8, 3), list(6, 1, 6)),
		"sums that wrap around": rows(list(5+math.MinInt, 1+math.MinInt, 3), list(2+math.MinInt, 8+math.MinInt, 4), list(6, 0, 7)),
	} {
		if hide.ProveCandidate(x, cellsOf(x), l) {
			t.Errorf("ProveCandidate: %s", what)
		}
	}
	for _, hidden := range [][]hide.Cell{nil, square(0, 1, 0, 1), cellsOf(x)} {
		if !hide.ProveCandidate(x, hidden, x.Rows) {
			t.Errorf("ProveCandidate of the table, %v hidden", hidden)
		}
	}
	// Just the cells of the circle are hidden.
	moved := rows(list(6, 0, 3), list(1, 9, 4), list(6, 0, 7))
	for i, c := range square(0, 1, 0, 1) {
		if hide.ProveCandidate(x, slices.Delete(square(0, 1, 0, 1), i, i+1), moved) {
			t.Errorf("ProveCandidate: %v is not hidden", c)
		}
	}
	// The rows may be above the cap, or have equal sums in the other table's shape.
	for _, l := range [][][]int{rows(list(10, 0), list(0, 9)), rows(list(9, 9)), rows(list(9), list(9)), rows(list(9, 0, 0), list(0, 9, 0))} {
		if hide.ProveCandidate(table(9, list(9, 0), list(0, 9)), cells(at(0, 0), at(0, 1), at(1, 0), at(1, 1)), l) {
			t.Errorf("ProveCandidate of %v", l)
		}
	}
	if hide.ProveCandidate(table(9, list(8, 1), list(2, 9)), square(0, 1, 0, 1), rows(list(10, -1), list(0, 11))) || hide.ProveCandidate(table(9, list(8, 4), list(2, 5)), square(0, 1, 0, 1), rows(list(10, 2), list(0, 7))) {
		t.Error("ProveCandidate: above the cap")
	}
}

// P8.4: the first request that is not satisfied, by all candidates.
func TestExposed(t *testing.T) {
	count := map[int]int{}
	forPublications(t, 2000, list(1, 2, 3, 20, 1000), func(t *testing.T, d *dice, p publication) {
		l := d.throwRequests(p.t, 8, d.upTo(1))
		want := firstExposed(p.t, p.hidden, l)
		due := api.OK
		if want < 0 {
			due = api.ErrNone
		}
		if n, e := hide.Exposed(p.t, p.hidden, l); n != max(0, want) || e != due {
			t.Errorf("Exposed of %v, %v: %d, %v, not %d", p, l, n, e, want)
		}
		count[want]++
	})
	for _, n := range list(-1, 0, 1, 2) {
		if count[n] < 30 {
			t.Errorf("only so many first requests: %v", count)
		}
	}
	// Below and Above are bounds that just are satisfied, or just not.
	x, hidden := example(), square(0, 1, 0, 1)
	for _, y := range []struct {
		q    hide.Request
		want api.Errno
	}{
		{ask(at(0, 0), 5, 1), api.ErrNone}, {ask(at(0, 0), 6, 1), api.OK}, {ask(at(0, 0), 5, 2), api.OK}, {ask(at(0, 0), 6, 0), api.OK}, {ask(at(0, 0), 0, 2), api.OK}, {ask(at(0, 0), 5, 0), api.ErrNone}, {ask(at(0, 0), 0, 1), api.ErrNone},
		{ask(at(0, 2), 0, 0), api.ErrNone}, {ask(at(0, 2), 1, 0), api.OK}, {ask(at(0, 2), 0, 1), api.OK}, {ask(at(0, 0), 1000, 1000), api.OK}, {ask(at(0, 0), 0, 1000), api.OK}, {ask(at(0, 0), 1000, 0), api.OK},
	} {
		if n, e := hide.Exposed(x, hidden, asks(y.q)); n != 0 || e != y.want {
			t.Errorf("Exposed of %v: %d, %v", y.q, n, e)
		}
		l := append(slices.Repeat(asks(ask(at(1, 1), 5, 1)), 7), y.q)
		if n, e := hide.Exposed(x, hidden, l); n != map[api.Errno]int{api.OK: 7}[y.want] || e != y.want {
			t.Errorf("Exposed of %v after others: %d, %v", y.q, n, e)
		}
	}
}

// P8.5: best sets that are plain.
func TestPlainHide(t *testing.T) {
	x := example()
	all := cellsOf(x)
	for what, y := range map[string]struct {
		hidden []hide.Cell
		l      []hide.Request
		want   []hide.Cell
	}{
		"no requests":                  {nil, nil, nil},
		"no requests, a cell":          {cells(at(1, 1)), nil, cells(at(1, 1))},
		"no requests, all":             {all, nil, all},
		"a request for nothing":        {cells(at(2, 0)), asks(ask(at(0, 0), 0, 0)), cells(at(2, 0))},
		"a cell that is not hidden":    {nil, asks(ask(at(0, 0), 1, 1)), square(0, 1, 0, 1)},
		"in another square":            {nil, asks(ask(at(0, 0), 3, 2)), square(0, 1, 0, 2)},
		"in the last square":           {nil, asks(ask(at(2, 2), 1, 1)), square(0, 2, 0, 2)},
		"hidden enough":                {ring(), asks(ask(at(0, 0), 5, 1)), ring()},
		"a cell of the square":         {cells(at(1, 1)), asks(ask(at(0, 0), 1, 1)), square(0, 1, 0, 1)},
		"a cell of another square":     {cells(at(1, 2)), asks(ask(at(0, 0), 1, 1)), square(0, 1, 0, 2)},
		"three cells of a square":      {cells(at(0, 2), at(2, 0), at(2, 2)), asks(ask(at(0, 0), 1, 1)), square(0, 2, 0, 2)},
		"2/1 can not be lower":         {cells(at(1, 1), at(1, 2), at(2, 2)), asks(ask(at(1, 1), 0, 1)), cells(at(0, 1), at(0, 2), at(1, 1), at(1, 2), at(2, 2))},
		"2/1 can be higher":            {cells(at(1, 1), at(1, 2), at(2, 2)), asks(ask(at(1, 1), 1, 0)), square(1, 2, 1, 2)},
		"a cell that is in no square":  {cells(at(2, 1)), asks(ask(at(0, 0), 1, 1)), append(square(0, 1, 0, 1), at(2, 1))},
		"a square that comes late":     {nil, asks(ask(at(2, 2), 7, 0)), square(1, 2, 1, 2)},
		"two cells of a square":        {nil, asks(ask(at(0, 0), 1, 0), ask(at(2, 2), 1, 0)), square(0, 2, 0, 2)},
		"a ring of six":                {nil, asks(ask(at(0, 0), 5, 0), ask(at(2, 2), 5, 0), ask(at(1, 1), 5, 0)), ring()},
		"two cells, two requests each": {nil, asks(ask(at(0, 0), 5, 0), ask(at(0, 1), 0, 5), ask(at(0, 0), 0, 1), ask(at(0, 1), 1, 0)), square(0, 1, 0, 1)},
	} {
		if l, some := bestOf(x, y.hidden, y.l); !slices.Equal(l, y.want) || !some {
			t.Errorf("%s, by the definition: %v, %v", what, l, some)
		}
		if l, e := hide.Hide(x, y.hidden, y.l); !slices.Equal(l, y.want) || e != api.OK {
			t.Errorf("%s: %v, %v, not %v", what, l, e, y.want)
		}
	}
}

// P8.5: the best set, of all that are tried.
func TestHideByDefinition(t *testing.T) {
	further, none, several := map[int]int{}, 0, 0
	forPublications(t, 700, list(1, 2, 3, 20, 1000), func(t *testing.T, d *dice, p publication) {
		p.hidden = slices.DeleteFunc(p.hidden, func(hide.Cell) bool { return d.upTo(2) > 0 })
		l := d.throwRequests(p.t, d.of(1, 2, 8), d.upTo(3)/3)
		want, some := bestOf(p.t, p.hidden, l)
		set, e := hide.Hide(p.t, p.hidden, l)
		if !slices.Equal(set, want) || some != (e == api.OK) || !some && e != api.ErrSecret {
			t.Errorf("Hide of %v for %v: %v, %v, not %v, %v", p, l, set, e, want, some)
		}
		if !some {
			none++
			return
		}
		further[len(set)-len(p.hidden)]++
		if len(p.hidden) > 0 && len(set) > len(p.hidden) {
			several++
		}
	})
	if none < 30 || several < 100 || further[0] < 50 || further[3] < 20 || further[4] < 20 || further[5] < 10 || further[6] < 10 {
		t.Errorf("only %d have no set, %d further cells, and so many: %v", none, several, further)
	}
}

// P8.2 to P8.5: tables as great as they may be.
func TestGreatest(t *testing.T) {
	x := table(1000, list(500, 400, 300, 200), list(0, 1000, 999, 1), list(123, 456, 789, 1000))
	all := cellsOf(x)
	wide := cutRanges(x, all)
	checkRanges(t, publication{x, all}, wide)
	sizes := map[int]bool{}
	for _, share := range list(1, 2, 10, 100, 1000) {
		for _, many := range list(1, 2, 4, 8) {
			var l []hide.Request
			for i := range many {
				c := all[i*5%len(all)]
				value, r := valueOf(x.Rows, c), wide[c.Row][c.Column]
				l = append(l, ask(c, (value-r.Lo)/share, (r.Hi-value)/share))
			}
			want, _ := bestOf(x, nil, l)
			if set, e := hide.Hide(x, nil, l); !slices.Equal(set, want) || e != api.OK {
				t.Errorf("Hide for %v: %v, %v, not %v", l, set, e, want)
			}
			sizes[len(want)] = true
		}
	}
	if len(sizes) < 5 || !sizes[11] {
		t.Errorf("only so many cells are hidden: %v", sizes)
	}
}
