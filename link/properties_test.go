package link_test

import (
	"slices"
	"testing"

	"tithing/age"
	"tithing/api"
	"tithing/link"
)

// throwMatching makes a matching of some of the pairs.
func (d *dice) throwMatching(old int, all []link.Pair) []int {
	l := slices.Repeat(list(-1), old)
	thin := d.upTo(2)
	for _, i := range d.order(len(all)) {
		p := all[i]
		if l[p.Old] == -1 && !slices.Contains(l, p.New) && d.upTo(5) >= thin {
			l[p.Old] = p.New
		}
	}
	return l
}

// throwCover makes a cover of the pairs.
func (d *dice) throwCover(all []link.Pair) (old, new []int) {
	for _, i := range d.order(len(all)) {
		p := all[i]
		switch {
		case slices.Contains(old, p.Old) || slices.Contains(new, p.New):
		case d.upTo(1) == 0:
			old = append(old, p.Old)
		default:
			new = append(new, p.New)
		}
	}
	slices.Sort(old)
	slices.Sort(new)
	return old, new
}

// P5.7, P5.8: no matching is larger and no cover smaller, and largest matchings have all sure pairs, and possible ones only.
func TestNoMore(t *testing.T) {
	largest, smaller, smallest := 0, 0, 0
	forFiles(t, 8, func(t *testing.T, d *dice, f link.File) {
		most, all := mostOf(t, f), allPairs(t, f)
		sure, possible := sureAndPossible(t, f)
		for _, p := range sure {
			if !slices.Contains(possible, p) {
				t.Errorf("Sure, Possible of %v: %v, %v", f, sure, possible)
			}
		}
		for range 20 {
			l := d.throwMatching(len(f.Old), all)
			if sizeOf(l) > most || !link.ProveMatch(f, l, sizeOf(l)) || link.ProveMatch(f, l, most+1) {
				t.Errorf("Most of %v: %d; a matching: %v", f, most, l)
			}
			if sizeOf(l) == most {
				checkLargest(t, f, l, sure, possible)
				largest++
			} else {
				smaller++
			}
			old, new := d.throwCover(all)
			many := len(old) + len(new)
			if many < most || !link.ProveCover(f, old, new, many) || link.ProveCover(f, old, new, most-1) {
				t.Errorf("Most of %v: %d; a cover: %v, %v", f, most, old, new)
			}
			if many == most {
				smallest++
			}
		}
	})
	if largest < 500 || smaller < 500 || smallest < 500 {
		t.Errorf("only %d matchings are largest, %d are not, and %d covers are smallest", largest, smaller, smallest)
	}
}

// checkLargest reports a fault if the largest matching lacks a sure pair, or has one that is not possible.
func checkLargest(t *testing.T, f link.File, l []int, sure, possible []link.Pair) {
	t.Helper()
	for _, p := range sure {
		if l[p.Old] != p.New {
			t.Errorf("Sure of %v: %v; a largest matching: %v", f, sure, l)
		}
	}
	for o, n := range l {
		if n != -1 && !slices.Contains(possible, pair(o, n)) {
			t.Errorf("Possible of %v: %v; a largest matching: %v", f, possible, l)
		}
	}
}

// human is a person as it is.
type human struct{ birth, sex, name, from, to int }

// seen returns an entry in which the person is recorded rightly, but not exactly.
func (d *dice) seen(t *testing.T, h human, place int) link.Entry {
	e := link.Entry{Who: born(h.birth-d.upTo(300), h.birth+d.upTo(300)), Sex: h.sex, Names: list(h.name), Place: place}
	for range d.upTo(3) {
		day, rule := h.birth+d.upTo(30000), d.upTo(1)
		years, e1 := age.Age(h.birth, day)
		known := max(0, years+rule*d.from(-1, 1))
		written, e2 := age.Write(e.Who.Rules[rule], known)
		if e1 != api.OK || e2 != api.OK {
			t.Fatalf("Age, Write: %v, %v", e1, e2)
		}
		e.Who.Records = append(e.Who.Records, record(day, rule, written))
	}
	if d.upTo(2) == 0 {
		e.Sex = link.Unknown
	}
	for range d.upTo(3) {
		e.Names = append(e.Names, d.upTo(6))
	}
	slices.Sort(e.Names)
	e.Names = slices.Compact(e.Names)
	return e
}

// throwHumans makes a file of persons in both lists, and others in one of them, with the new entry of each old one, or None.
func (d *dice) throwHumans(t *testing.T) (f link.File, truth []int) {
	f.New = make([]link.Entry, d.upTo(8))
	news := d.order(len(f.New))
	for range d.upTo(8) {
		h := human{d.upTo(2000), d.upTo(1), d.upTo(6), d.upTo(9), 0}
		h.to = h.from
		if d.upTo(1) == 0 {
			h.to = d.upTo(9)
			f.Moves = append(f.Moves, move(h.from, h.to))
		}
		f.Old = append(f.Old, d.seen(t, h, h.from))
		if len(news) == 0 || d.upTo(1) == 0 {
			truth = append(truth, link.None)
			continue
		}
		truth = append(truth, news[0])
		f.New[news[0]] = d.seen(t, h, h.to)
		news = news[1:]
	}
	for _, n := range news {
		f.New[n] = d.seen(t, human{d.upTo(2000), d.upTo(1), d.upTo(6), 0, 0}, d.upTo(9))
	}
	return f, truth
}

// P5.9: true pairs are a matching, and a largest one has at least as many.
func TestTrueLinks(t *testing.T) {
	d := dice(7)
	more, moved := 0, 0
	for range 1000 {
		f, truth := d.throwHumans(t)
		many := sizeOf(truth)
		if !link.ProveMatch(f, truth, many) {
			t.Fatalf("ProveMatch of %v: %v", f, truth)
		}
		most := mostOf(t, f)
		if most < many {
			t.Fatalf("Most of %v: %d; %v is true", f, most, truth)
		}
		if most > many {
			more++
		}
		for o, n := range truth {
			if n != -1 && f.Old[o].Place != f.New[n].Place {
				moved++
			}
		}
	}
	if more < 50 || moved < 200 {
		t.Errorf("only %d matchings are larger than the true one, and %d persons moved", more, moved)
	}
}

// P5.10: a pair costs nothing if it is possible, and 1 otherwise.
func TestCosts(t *testing.T) {
	count := []int{0, 0}
	forFiles(t, 8, func(t *testing.T, d *dice, f link.File) {
		_, possible := sureAndPossible(t, f)
		for _, p := range allPairs(t, f) {
			want := 1
			if slices.Contains(possible, p) {
				want = 0
			}
			if n, e := link.Cost(f, p.Old, p.New); n != want || e != api.OK {
				t.Errorf("Cost of %v of %v: %d, %v; possible: %v", p, f, n, e, possible)
			}
			count[want]++
		}
	})
	if count[0] < 500 || count[1] < 100 {
		t.Errorf("only so many pairs cost 0, and 1: %v", count)
	}
}

// without returns the list without the entry.
func without(l []link.Entry, n int) []link.Entry { return slices.Delete(slices.Clone(l), n, n+1) }

// P5.11: a largest matching is smaller without an entry if and only if this is always linked.
func TestWithoutAnEntry(t *testing.T) {
	count := map[bool]int{}
	forFiles(t, 8, func(t *testing.T, d *dice, f link.File) {
		most := mostOf(t, f)
		old, new, e := link.Always(f)
		if e != api.OK {
			t.Fatalf("Always of %v: %v", f, e)
		}
		check := func(rest link.File, always bool) {
			want := most
			if always {
				want--
			}
			if n := mostOf(t, rest); n != want {
				t.Errorf("Most of %v: %d, not %d; Always of %v: %v, %v", rest, n, want, f, old, new)
			}
			count[always]++
		}
		for n := range f.Old {
			check(link.File{Old: without(f.Old, n), New: f.New, Moves: f.Moves}, slices.Contains(old, n))
		}
		for n := range f.New {
			check(link.File{Old: f.Old, New: without(f.New, n), Moves: f.Moves}, slices.Contains(new, n))
		}
	})
	if count[true] < 500 || count[false] < 500 {
		t.Errorf("only so many entries are always linked, or not: %v", count)
	}
}

// P5.12: further entries and moves.
func TestMore(t *testing.T) {
	byEntry, byMove := []int{0, 0}, 0
	forFiles(t, 7, func(t *testing.T, d *dice, f link.File) {
		most := mostOf(t, f)
		for range 5 {
			x := d.throwEntry(5, 2)
			old, new := copyOf(f), copyOf(f)
			old.Old = slices.Insert(old.Old, d.upTo(len(old.Old)), x)
			new.New = slices.Insert(new.New, d.upTo(len(new.New)), x)
			for _, more := range []link.File{old, new} {
				n := mostOf(t, more)
				if n < most || n > most+1 {
					t.Fatalf("Most of %v: %d; of %v: %d", f, most, more, n)
				}
				byEntry[n-most]++
			}
			more := copyOf(f)
			more.Moves = append(more.Moves, move(d.upTo(2), d.upTo(2)))
			if n := mostOf(t, more); n < most {
				t.Errorf("Most of %v: %d; of %v: %d", f, most, more, n)
			} else if n > most {
				byMove++
			}
		}
	})
	if byEntry[0] < 300 || byEntry[1] < 300 || byMove < 30 {
		t.Errorf("only so many are larger, or not, with a further entry: %v; with a move: %d", byEntry, byMove)
	}
}

// P5.13: there is only one largest matching if and only if all possible pairs are sure.
func TestOnlyOne(t *testing.T) {
	count := map[bool]int{}
	forFiles(t, 8, func(t *testing.T, d *dice, f link.File) {
		sure, possible := sureAndPossible(t, f)
		l, e := link.Only(f)
		is := slices.Equal(sure, possible)
		if is && (e != api.OK || !link.ProveMatch(f, l, mostOf(t, f))) || !is && e != api.ErrTie {
			t.Errorf("Only of %v: %v, %v; Sure, Possible: %v, %v", f, l, e, sure, possible)
		}
		count[is]++
	})
	if count[true] < 100 || count[false] < 100 {
		t.Errorf("only so many files have one largest matching, or several: %v", count)
	}
}

// turned returns the pairs the other way round, in their order.
func turned(l []link.Pair) []link.Pair {
	var out []link.Pair
	for _, p := range l {
		out = append(out, pair(p.New, p.Old))
	}
	return sorted(out)
}

func sorted(l []link.Pair) []link.Pair {
	slices.SortFunc(l, func(a, b link.Pair) int { return 100*(a.Old-b.Old) + a.New - b.New })
	return l
}

// P5.14: Old and New exchanged, and all moves reversed.
func TestTheOtherWay(t *testing.T) {
	count := 0
	forFiles(t, 8, func(t *testing.T, d *dice, f link.File) {
		g := link.File{Old: f.New, New: f.Old}
		for _, m := range f.Moves {
			g.Moves = append(g.Moves, move(m.To, m.From))
		}
		l, k := allPairs(t, f), allPairs(t, g)
		sure, possible := sureAndPossible(t, f)
		sure2, possible2 := sureAndPossible(t, g)
		if !slices.Equal(turned(l), k) || !slices.Equal(turned(sure), sure2) || !slices.Equal(turned(possible), possible2) {
			t.Errorf("Pairs, Sure, Possible of %v: %v, %v, %v; the other way: %v, %v, %v", f, l, sure, possible, k, sure2, possible2)
		}
		if mostOf(t, f) != mostOf(t, g) {
			t.Errorf("Most of %v: %d; the other way: %d", f, mostOf(t, f), mostOf(t, g))
		}
		if len(f.Old) != len(f.New) && len(l) > 0 {
			count++
		}
	})
	if count < 200 {
		t.Errorf("only %d files have different lists", count)
	}
}

// reordered returns the list in that order.
func reordered[T any](l []T, order []int) []T {
	var out []T
	for _, n := range order {
		out = append(out, l[n])
	}
	return out
}

// renamed returns the pairs of a file of other orders with the numbers that the entries had before.
func renamed(l []link.Pair, old, new []int) []link.Pair {
	var out []link.Pair
	for _, p := range l {
		out = append(out, pair(old[p.Old], new[p.New]))
	}
	return sorted(out)
}

func renumbered(l, order []int) []int {
	out := reordered(order, l)
	slices.Sort(out)
	return out
}

// P5.15, P7: entries and moves in another order.
func TestAnyOrder(t *testing.T) {
	forFiles(t, 8, func(t *testing.T, d *dice, f link.File) {
		old, new := d.order(len(f.Old)), d.order(len(f.New))
		g := link.File{Old: reordered(f.Old, old), New: reordered(f.New, new), Moves: reordered(f.Moves, d.order(len(f.Moves)))}
		sure, possible := sureAndPossible(t, f)
		sure2, possible2 := sureAndPossible(t, g)
		if !slices.Equal(renamed(sure2, old, new), sure) || !slices.Equal(renamed(possible2, old, new), possible) {
			t.Errorf("Sure, Possible of %v: %v, %v; of %v: %v, %v", f, sure, possible, g, sure2, possible2)
		}
		if l := renamed(allPairs(t, g), old, new); !slices.Equal(l, allPairs(t, f)) {
			t.Errorf("Pairs of %v: %v; of %v: %v", f, allPairs(t, f), g, l)
		}
		if mostOf(t, f) != mostOf(t, g) {
			t.Errorf("Most of %v: %d; of %v: %d", f, mostOf(t, f), g, mostOf(t, g))
		}
		a, b, e := link.Always(f)
		c, k, e2 := link.Always(g)
		if !slices.Equal(renumbered(c, old), a) || !slices.Equal(renumbered(k, new), b) || e != api.OK || e2 != api.OK {
			t.Errorf("Always of %v: %v, %v; of %v: %v, %v", f, a, b, g, c, k)
		}
		_, e = link.Only(f)
		if _, e2 = link.Only(g); e != e2 {
			t.Errorf("Only of %v: %v; of %v: %v", f, e, g, e2)
		}
	})
}
