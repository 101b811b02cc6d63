package hide_test

import (
	"slices"
	"testing"

	"tithing/api"
	"tithing/hide"
)

// isWithin reports whether no range of the wide ones is narrower than its range.
func isWithin(l, wide [][]hide.Range) bool {
	return slices.EqualFunc(l, wide, func(row, wideRow []hide.Range) bool {
		return slices.EqualFunc(row, wideRow, func(r, w hide.Range) bool { return w.Lo <= r.Lo && r.Hi <= w.Hi })
	})
}

// wander makes a candidate: again and again the values of a square of hidden cells, or of a ring of them, are moved.
func (d *dice) wander(p publication) [][]int {
	l := copyOfRows(p.t.Rows)
	for range 40 {
		c := d.order(len(l[0]))
		r := d.order(len(l))
		long := min(2+d.upTo(1), len(r), len(c))
		moved, length := copyOfRows(l), 1+d.near(max(1, p.t.Cap))
		for i := range long {
			moved[r[i]][c[i]] += length
			moved[r[i]][c[(i+1)%long]] -= length
		}
		if isCandidate(p, moved) {
			l = moved
		}
	}
	return l
}

// P8.6: the table is a candidate, and the cells of each one are in their ranges.
func TestEveryCandidate(t *testing.T) {
	other := 0
	forPublications(t, 1500, list(2, 5, 20, 1000), func(t *testing.T, d *dice, p publication) {
		all := rangesOf(t, p)
		if !hide.ProveCandidate(p.t, p.hidden, p.t.Rows) || !isWithin(alone(p.t), all) {
			t.Errorf("Ranges of %v: %v; the table itself is no candidate, or not in them", p, all)
		}
		for range 3 {
			l := d.wander(p)
			if !hide.ProveCandidate(p.t, p.hidden, l) || !isWithin(alone(hide.Table{Rows: l}), all) {
				t.Errorf("Ranges of %v: %v; a candidate: %v", p, all, l)
			}
			if !same(l, p.t.Rows) {
				other++
			}
		}
	})
	if other < 500 {
		t.Errorf("only %d candidates are not the table itself", other)
	}
}

// P8.6, P8.7: a candidate of a publication has the same candidates, and so the same ranges.
func TestSameCandidates(t *testing.T) {
	forPublications(t, 500, list(1, 3, 20, 1000), func(t *testing.T, d *dice, p publication) {
		all := rangesOf(t, p)
		for _, c := range p.hidden {
			for _, high := range []bool{false, true} {
				l, e := hide.Show(p.t, p.hidden, c, high)
				if e != api.OK {
					t.Fatalf("Show of %v of %v: %v", c, p, e)
				}
				shown := publication{hide.Table{Rows: l, Cap: p.t.Cap}, p.hidden}
				if !same(rangesOf(t, shown), all) || !hide.ProveCandidate(shown.t, p.hidden, p.t.Rows) {
					t.Errorf("Ranges of %v: %v; of %v: %v", p, all, shown, rangesOf(t, shown))
				}
			}
		}
	})
}

// P8.8: with one more hidden cell.
func TestMoreHidden(t *testing.T) {
	wider, satisfied, newly := 0, 0, 0
	forPublications(t, 1500, list(1, 3, 20, 1000), func(t *testing.T, d *dice, p publication) {
		all := rangesOf(t, p)
		l := d.throwRequests(p.t, 8, 0)
		for _, c := range without(cellsOf(p.t), p.hidden) {
			more := publication{p.t, join(p.hidden, cells(c))}
			wide := rangesOf(t, more)
			if !isWithin(all, wide) {
				t.Errorf("Ranges of %v: %v; of %v: %v", p, all, more, wide)
			}
			if !same(all, wide) {
				wider++
			}
			for _, q := range l {
				was, is := isSufficient(t, p, asks(q)), isSufficient(t, more, asks(q))
				switch {
				case was && !is:
					t.Errorf("%v is satisfied by %v, and not by %v", q, p, more)
				case was:
					satisfied++
				case is:
					newly++
				}
			}
		}
	})
	if wider < 300 || satisfied < 300 || newly < 100 {
		t.Errorf("only %d have wider ranges, %d requests are satisfied before, and %d newly", wider, satisfied, newly)
	}
}

// inLine counts the cells of the row, and those of the column, of a cell.
func inLine(l []hide.Cell, c hide.Cell) (row, column int) {
	for _, other := range l {
		if other.Row == c.Row {
			row++
		}
		if other.Column == c.Column {
			column++
		}
	}
	return row, column
}

// P8.9: cells that are alone in their row, or in their column, and two of different rows and columns.
func TestAlone(t *testing.T) {
	lonely, pairs := 0, 0
	forPublications(t, 1000, list(1, 3, 20, 1000), func(t *testing.T, d *dice, p publication) {
		all, values := rangesOf(t, p), alone(p.t)
		for _, c := range p.hidden {
			row, column := inLine(p.hidden, c)
			if row > 1 && column > 1 {
				continue
			}
			lonely++
			if all[c.Row][c.Column] != values[c.Row][c.Column] {
				t.Errorf("Ranges of %v: %v; %v is alone", p, all, c)
			}
		}
		for _, a := range cellsOf(p.t) {
			for _, b := range cellsOf(p.t) {
				if a.Row < b.Row && a.Column != b.Column {
					pairs++
					if l := rangesOf(t, publication{p.t, cells(a, b)}); !same(l, values) {
						t.Errorf("Ranges of %v, %v and %v hidden: %v", p.t, a, b, l)
					}
				}
			}
		}
	})
	if lonely < 500 || pairs < 1000 {
		t.Errorf("only %d cells are alone, and %d pairs", lonely, pairs)
	}
}

// P8.10: the four cells of two rows and two columns.
func TestCycle(t *testing.T) {
	count := map[bool]int{}
	forPublications(t, 1000, list(1, 3, 20, 1000), func(t *testing.T, d *dice, p publication) {
		if len(p.t.Rows) < 2 || len(p.t.Rows[0]) < 2 {
			return
		}
		r, c := d.order(len(p.t.Rows))[:2], d.order(len(p.t.Rows[0]))[:2]
		slices.Sort(r)
		slices.Sort(c)
		p.hidden = square(r[0], r[1], c[0], c[1])
		values := list()
		for _, c := range p.hidden {
			values = append(values, valueOf(p.t.Rows, c))
		}
		// The first cell and the last one move against the others.
		up := min(p.t.Cap-values[0], p.t.Cap-values[3], values[1], values[2])
		down := min(values[0], values[3], p.t.Cap-values[1], p.t.Cap-values[2])
		want := alone(p.t)
		for i, c := range p.hidden {
			by := to(values[i]-down, values[i]+up)
			if i == 1 || i == 2 {
				by = to(values[i]-up, values[i]+down)
			}
			want[c.Row][c.Column] = by
		}
		if l := rangesOf(t, p); !same(l, want) {
			t.Errorf("Ranges of %v: %v, not %v", p, l, want)
		}
		count[up+down > 0]++
	})
	if count[true] < 200 || count[false] < 10 {
		t.Errorf("only so many can move, or not: %v", count)
	}
}

// P8.11: the best set is sufficient, and is not without any set of its further cells.
func TestNeeded(t *testing.T) {
	needed := 0
	forPublications(t, 700, list(1, 3, 20, 1000), func(t *testing.T, d *dice, p publication) {
		p.hidden = slices.DeleteFunc(p.hidden, func(hide.Cell) bool { return d.upTo(2) > 0 })
		l := d.throwRequests(p.t, 3, 0)
		set, e := hide.Hide(p.t, p.hidden, l)
		if e != api.OK || !isSufficient(t, publication{p.t, set}, l) {
			t.Fatalf("Hide of %v for %v: %v, %v", p, l, set, e)
		}
		if kept := without(p.hidden, set); len(kept) > 0 || !slices.IsSortedFunc(set, byOrder) {
			t.Errorf("Hide of %v for %v: %v", p, l, set)
		}
		further := without(set, p.hidden)
		for bits := 1; bits < 1<<len(further); bits++ {
			out := members(bits, further)
			if isSufficient(t, publication{p.t, without(set, out)}, l) {
				t.Errorf("Hide of %v for %v: %v, but without %v, too", p, l, set, out)
			}
			needed++
		}
	})
	if needed < 1000 {
		t.Errorf("only %d sets are left out", needed)
	}
}

// P8.12: no other set is smaller, or as large and before the best one.
func TestNoSmallerSet(t *testing.T) {
	larger, later, none := 0, 0, 0
	forPublications(t, 150, list(1, 3, 20, 1000), func(t *testing.T, d *dice, p publication) {
		p.hidden = slices.DeleteFunc(p.hidden, func(hide.Cell) bool { return d.upTo(2) > 0 })
		l := d.throwRequests(p.t, 3, d.upTo(4)/4)
		best, e := hide.Hide(p.t, p.hidden, l)
		shown := without(cellsOf(p.t), p.hidden)
		for bits := range 1 << len(shown) {
			set := join(p.hidden, members(bits, shown))
			if !isSufficient(t, publication{p.t, set}, l) {
				continue
			}
			order := slices.CompareFunc(set, best, byOrder)
			switch {
			case e != api.OK || len(set) < len(best) || len(set) == len(best) && order < 0:
				t.Errorf("Hide of %v for %v: %v, %v, but %v is better", p, l, best, e, set)
			case len(set) > len(best):
				larger++
			case order > 0:
				later++
			}
		}
		if e != api.OK {
			none++
		}
	})
	if larger < 1000 || later < 20 || none < 3 {
		t.Errorf("only %d sets are larger, %d come later, and %d requests can not be satisfied", larger, later, none)
	}
}

// P8.13: lower requests, or fewer, need no larger set; and if they have none, all of them had none.
func TestEasierRequests(t *testing.T) {
	smaller, none, other := 0, 0, 0
	forPublications(t, 300, list(1, 3, 20, 1000), func(t *testing.T, d *dice, p publication) {
		p.hidden = slices.DeleteFunc(p.hidden, func(hide.Cell) bool { return d.upTo(2) > 0 })
		l := append(d.throwRequests(p.t, 3, d.upTo(4)/4), ask(cellsOf(p.t)[0], 0, 0))
		set, e := hide.Hide(p.t, p.hidden, l)
		for i, q := range l {
			fewer, lower := slices.Delete(slices.Clone(l), i, i+1), slices.Clone(l)
			lower[i] = ask(q.Cell, d.upTo(q.Below), d.upTo(q.Above))
			for _, easier := range [][]hide.Request{fewer, lower} {
				set2, e2 := hide.Hide(p.t, p.hidden, easier)
				if e2 == api.ErrSecret && e == api.OK || e == api.OK && len(set2) > len(set) {
					t.Errorf("Hide of %v for %v: %v, %v; for %v: %v, %v", p, l, set, e, easier, set2, e2)
				}
				switch {
				case e2 == api.ErrSecret:
					none++
				case e == api.ErrSecret:
					other++
				case len(set2) < len(set):
					smaller++
				}
			}
		}
	})
	if smaller < 50 || none < 20 || other < 10 {
		t.Errorf("only %d need a smaller set, %d have none either, and %d have one newly", smaller, none, other)
	}
}

// turned exchanges rows and columns.
func turned[T any](l [][]T) [][]T {
	out := make([][]T, len(l[0]))
	for _, row := range l {
		for c, x := range row {
			out[c] = append(out[c], x)
		}
	}
	return out
}

// reordered returns the list in that order.
func reordered[T any](l []T, order []int) []T {
	var out []T
	for _, n := range order {
		out = append(out, l[n])
	}
	return out
}

// movedTo returns the cells where they are now, in their order.
func movedTo(l []hide.Cell, place func(c hide.Cell) hide.Cell) []hide.Cell {
	var out []hide.Cell
	for _, c := range l {
		out = append(out, place(c))
	}
	return join(out, nil)
}

func requestsTo(l []hide.Request, place func(c hide.Cell) hide.Cell) []hide.Request {
	var out []hide.Request
	for _, q := range l {
		out = append(out, ask(place(q.Cell), q.Below, q.Above))
	}
	return out
}

// P8.14: rows and columns exchanged, and rows in another order; P7: columns, too, and requests.
func TestRowsAndColumns(t *testing.T) {
	turns, orders := 0, 0
	forPublications(t, 700, list(1, 3, 20, 1000), func(t *testing.T, d *dice, p publication) {
		all, l := rangesOf(t, p), d.throwRequests(p.t, 3, 0)
		set, e := hide.Hide(p.t, p.hidden, l)
		check := func(what string, other publication, want [][]hide.Range, place func(c hide.Cell) hide.Cell) {
			if got := rangesOf(t, other); !same(got, want) {
				t.Errorf("Ranges of %v: %v; %s, %v: %v", p, all, what, other, got)
			}
			// Which one of several sets is the first may change, but not their size.
			set2, e2 := hide.Hide(other.t, other.hidden, requestsTo(l, place))
			if len(set2) != len(set) || e2 != e {
				t.Errorf("Hide of %v for %v: %v, %v; %s: %v, %v", p, l, set, e, what, set2, e2)
			}
			n, e := hide.Exposed(p.t, p.hidden, l)
			if n2, e2 := hide.Exposed(other.t, other.hidden, requestsTo(l, place)); n != n2 || e != e2 {
				t.Errorf("Exposed of %v for %v: %d, %v; %s: %d, %v", p, l, n, e, what, n2, e2)
			}
		}
		if len(p.t.Rows[0]) <= 3 {
			turn := func(c hide.Cell) hide.Cell { return at(c.Column, c.Row) }
			check("turned", publication{hide.Table{Rows: turned(p.t.Rows), Cap: p.t.Cap}, movedTo(p.hidden, turn)}, turned(all), turn)
			turns++
		}
		order := d.order(len(p.t.Rows))
		place := func(c hide.Cell) hide.Cell { return at(slices.Index(order, c.Row), c.Column) }
		check("in another order", publication{hide.Table{Rows: reordered(p.t.Rows, order), Cap: p.t.Cap}, movedTo(p.hidden, place)}, reordered(all, order), place)
		columns := d.order(len(p.t.Rows[0]))
		place = func(c hide.Cell) hide.Cell { return at(c.Row, slices.Index(columns, c.Column)) }
		check("columns in another order", publication{hide.Table{Rows: turned(reordered(turned(p.t.Rows), columns)), Cap: p.t.Cap}, movedTo(p.hidden, place)}, turned(reordered(turned(all), columns)), place)
		if !slices.IsSorted(order) {
			orders++
		}
		mixed := reordered(l, d.order(len(l)))
		if set2, e2 := hide.Hide(p.t, p.hidden, mixed); !slices.Equal(set, set2) || e != e2 {
			t.Errorf("Hide of %v for %v: %v, %v; for %v: %v, %v", p, l, set, e, mixed, set2, e2)
		}
	})
	if turns < 200 || orders < 200 {
		t.Errorf("only %d are turned, and %d in another order", turns, orders)
	}
}
