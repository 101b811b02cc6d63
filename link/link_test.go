package link_test

import (
	"math"
	"slices"
	"testing"

	"tithing/age"
	"tithing/api"
	"tithing/link"
)

func checkPairs(t *testing.T, f link.File, want ...link.Pair) {
	t.Helper()
	if l, e := link.Pairs(f); !slices.Equal(l, want) || e != api.OK {
		t.Errorf("Pairs of %v: %v, %v, not %v", f, l, e, want)
	}
}

// P5.1: what has to agree.
func TestPairs(t *testing.T) {
	checkPairs(t, example(), pair(0, 0), pair(0, 2), pair(1, 1), pair(2, 2))
	checkPairs(t, towns(500), pair(0, 0), pair(2, 2))
	checkPairs(t, towns(700, move(1, 2), move(1, 3)), pair(0, 0), pair(0, 2), pair(1, 1))
	checkPairs(t, full(2, 3), pair(0, 0), pair(0, 1), pair(0, 2), pair(1, 0), pair(1, 1), pair(1, 2))
	checkPairs(t, link.File{})
	checkPairs(t, link.File{Old: entries(plain(5))})
	checkPairs(t, link.File{New: entries(plain(5))})
	checkPairs(t, row(3, 2), pair(0, 0), pair(1, 0), pair(1, 1), pair(2, 1))
}

// P5.1: an old entry and a new one, with one difference or several.
func TestPair(t *testing.T) {
	old, new := entry(0, 1, 0, 1000, 5, 7), entry(0, 1, 500, 2000, 7, 9)
	for what, x := range map[string]struct {
		change func(a, b *link.Entry)
		want   bool
	}{
		"equal":                     {func(a, b *link.Entry) {}, true},
		"other sexes":               {func(a, b *link.Entry) { a.Sex = 1 }, false},
		"other sexes, reversed":     {func(a, b *link.Entry) { b.Sex = 1 }, false},
		"both female":               {func(a, b *link.Entry) { a.Sex, b.Sex = 1, 1 }, true},
		"old sex not known":         {func(a, b *link.Entry) { a.Sex = 2 }, true},
		"new sex not known":         {func(a, b *link.Entry) { b.Sex = 2 }, true},
		"female and not known":      {func(a, b *link.Entry) { a.Sex, b.Sex = 1, 2 }, true},
		"no sex known":              {func(a, b *link.Entry) { a.Sex, b.Sex = 2, 2 }, true},
		"other names":               {func(a, b *link.Entry) { b.Names = list(6, 8, 9) }, false},
		"the last names":            {func(a, b *link.Entry) { a.Names, b.Names = list(0, 1, 2, 99), list(3, 4, 5, 99) }, true},
		"the first name":            {func(a, b *link.Entry) { a.Names, b.Names = list(0, 1), list(0, 9) }, true},
		"first and last":            {func(a, b *link.Entry) { a.Names, b.Names = list(3, 4), list(0, 1, 2, 3) }, true},
		"a move":                    {func(a, b *link.Entry) { b.Place = 2 }, true},
		"a move, reversed":          {func(a, b *link.Entry) { a.Place = 2 }, false},
		"two moves":                 {func(a, b *link.Entry) { b.Place = 4 }, false},
		"the second move":           {func(a, b *link.Entry) { a.Place, b.Place = 2, 4 }, true},
		"no move":                   {func(a, b *link.Entry) { a.Place, b.Place = 4, 1 }, false},
		"both moved":                {func(a, b *link.Entry) { a.Place, b.Place = 3, 3 }, true},
		"place 0":                   {func(a, b *link.Entry) { a.Place, b.Place = 0, 0 }, true},
		"from place 0":              {func(a, b *link.Entry) { a.Place, b.Place = 0, 9 }, true},
		"to place 0":                {func(a, b *link.Entry) { a.Place, b.Place = 9, 0 }, false},
		"too old":                   {func(a, b *link.Entry) { b.Who.Born.Lo = 1001 }, false},
		"just not too old":          {func(a, b *link.Entry) { b.Who.Born.Lo = 1000 }, true},
		"too young":                 {func(a, b *link.Entry) { a.Who.Born = age.Range{Lo: 2001, Hi: 3000} }, false},
		"just not too young":        {func(a, b *link.Entry) { a.Who.Born = age.Range{Lo: 2000, Hi: 3000} }, true},
		"an old record":             {func(a, b *link.Entry) { a.Who.Records = []age.Record{record(864, 0, 1)} }, false},
		"an old record, a day more": {func(a, b *link.Entry) { a.Who.Records = []age.Record{record(865, 0, 1)} }, true},
		"a new record":              {func(a, b *link.Entry) { b.Who.Records = []age.Record{record(2000, 0, 2)} }, true},
		"a new record, one year on": {func(a, b *link.Entry) { b.Who.Records = []age.Record{record(2000, 0, 1)} }, false},
		"records that contradict": {func(a, b *link.Entry) {
			a.Who.Records = []age.Record{record(2000, 0, 2), record(2000, 0, 3)}
		}, false},
	} {
		a, b := old, new
		x.change(&a, &b)
		l := moves(move(1, 2), move(2, 4), move(1, 2), move(0, 9), move(3, 3))
		want := []link.Pair(nil)
		if x.want {
			want = pairs(pair(0, 0))
		}
		if l, e := link.Pairs(link.File{Old: entries(a), New: entries(b), Moves: l}); !slices.Equal(l, want) || e != api.OK {
			t.Errorf("%s: %v, %v", what, l, e)
		}
		if got := arePair(a, b, l); got != x.want {
			t.Errorf("%s: by the definition %v", what, got)
		}
	}
}

// P5.2 to P5.6: the chapter's examples, and files whose results are plain.
func TestExamples(t *testing.T) {
	diagonal := pairs(pair(0, 0), pair(1, 1), pair(2, 2))
	for what, x := range map[string]struct {
		f              link.File
		most           int
		only           []int
		e              api.Errno
		sure, possible []link.Pair
		old, new       []int
	}{
		"the example":            {example(), 3, list(0, 1, 2), api.OK, diagonal, diagonal, list(0, 1, 2), list(0, 1, 2)},
		"without the move":       {towns(500, move(1, 2)), 2, list(0, -1, 2), api.OK, pairs(pair(0, 0), pair(2, 2)), pairs(pair(0, 0), pair(2, 2)), list(0, 2), list(0, 2)},
		"born later":             {towns(700, move(1, 2), move(1, 3)), 2, nil, api.ErrTie, pairs(pair(1, 1)), pairs(pair(0, 0), pair(0, 2), pair(1, 1)), list(0, 1), list(1)},
		"three and two in a row": {row(3, 2), 2, nil, api.ErrTie, nil, pairs(pair(0, 0), pair(1, 0), pair(1, 1), pair(2, 1)), nil, list(0, 1)},
		"two and three in a row": {row(2, 3), 2, list(0, 1), api.OK, pairs(pair(0, 0), pair(1, 1)), pairs(pair(0, 0), pair(1, 1)), list(0, 1), list(0, 1)},
		"all are pairs":          {full(3, 2), 2, nil, api.ErrTie, nil, pairsOf(full(3, 2)), nil, list(0, 1)},
		"a star":                 {star(4), 1, nil, api.ErrTie, nil, pairsOf(star(4)), list(0), nil},
		"a short star":           {star(1), 1, list(0), api.OK, pairs(pair(0, 0)), pairs(pair(0, 0)), list(0), list(0)},
		"some have no place":     {fromTable("x.", "x.", "xx"), 2, nil, api.ErrTie, pairs(pair(2, 1)), pairs(pair(0, 0), pair(1, 0), pair(2, 1)), list(2), list(0, 1)},
		"nobody":                 {link.File{}, 0, nil, api.OK, nil, nil, nil, nil},
		"nobody is new":          {link.File{Old: entries(plain(5), plain(6))}, 0, list(-1, -1), api.OK, nil, nil, nil, nil},
		"nobody is old":          {link.File{New: entries(plain(5), plain(6))}, 0, nil, api.OK, nil, nil, nil, nil},
		"no pairs":               {link.File{Old: entries(plain(5)), New: entries(plain(6))}, 0, list(-1), api.OK, nil, nil, nil, nil},
	} {
		if l, e := link.Only(x.f); !slices.Equal(l, x.only) || e != x.e {
			t.Errorf("Only, %s: %v, %v", what, l, e)
		}
		if sure, possible := sureAndPossible(t, x.f); !slices.Equal(sure, x.sure) || !slices.Equal(possible, x.possible) {
			t.Errorf("Sure, Possible, %s: %v, %v", what, sure, possible)
		}
		if old, new, e := link.Always(x.f); !slices.Equal(old, x.old) || !slices.Equal(new, x.new) || e != api.OK {
			t.Errorf("Always, %s: %v, %v, %v", what, old, new, e)
		}
		checkMatchAndCover(t, x.f, x.most)
	}
	for _, x := range []struct{ old, new, want int }{{0, 2, 1}, {0, 0, 0}, {1, 1, 0}, {2, 2, 0}} {
		if n, e := link.Cost(example(), x.old, x.new); n != x.want || e != api.OK {
			t.Errorf("Cost of %d and %d: %d, %v", x.old, x.new, n, e)
		}
	}
}

// checkMatchAndCover reports a fault if the file has no matching, or no cover, of that size, or there are others that show the opposite.
func checkMatchAndCover(t *testing.T, f link.File, most int) {
	t.Helper()
	all := pairsOf(f)
	if n, e := link.Most(f); n != most || e != api.OK {
		t.Errorf("Most of %v: %d, %v, not %d", f, n, e, most)
	}
	l, e := link.Match(f)
	if !isMatching(len(f.Old), all, l) || sizeOf(l) != most || e != api.OK {
		t.Errorf("Match of %v: %v, %v", f, l, e)
	}
	if !link.ProveMatch(f, l, most) || link.ProveMatch(f, l, most+1) {
		t.Errorf("ProveMatch of %v, %v: not as many as %d", f, l, most)
	}
	old, new, e := link.Cover(f)
	if !isCover(all, old, new) || len(old)+len(new) != most || e != api.OK {
		t.Errorf("Cover of %v: %v, %v, %v", f, old, new, e)
	}
	if !link.ProveCover(f, old, new, most) || link.ProveCover(f, old, new, most-1) {
		t.Errorf("ProveCover of %v, %v, %v: not as many as %d", f, old, new, most)
	}
}

// isMatching tells what the chapter defines as a matching.
func isMatching(old int, all []link.Pair, l []int) bool {
	for o, n := range l {
		if n != -1 && (!slices.Contains(all, pair(o, n)) || slices.Index(l, n) != o) {
			return false
		}
	}
	return len(l) == old
}

// P5.1 to P5.6: all matchings are tried.
func TestByDefinition(t *testing.T) {
	sure, loose, impossible, ties, only := 0, 0, 0, 0, 0
	forFiles(t, 5, func(t *testing.T, d *dice, f link.File) {
		x := largestOf(f)
		checkPairs(t, f, x.all...)
		checkMatchAndCover(t, f, x.size)
		checkOnly(t, f, x)
		checkSurePossible(t, f, x)
		checkCosts(t, f, x)
		old, new := x.always(len(f.Old), len(f.New))
		if a, b, e := link.Always(f); !slices.Equal(a, old) || !slices.Equal(b, new) || e != api.OK {
			t.Errorf("Always of %v: %v, %v, %v, not %v, %v", f, a, b, e, old, new)
		}
		some, each := len(x.pairsIn(1)), len(x.pairsIn(len(x.matchings)))
		sure, loose, impossible = sure+each, loose+some-each, impossible+len(x.all)-some
		if len(x.matchings) > 1 {
			ties++
		} else if x.size > 0 {
			only++
		}
	})
	if sure < 200 || loose < 200 || impossible < 50 || ties < 100 || only < 100 {
		t.Errorf("only %d pairs are sure, %d possible, %d not, %d files have several largest matchings, and %d one", sure, loose, impossible, ties, only)
	}
}

func checkOnly(t *testing.T, f link.File, x largest) {
	t.Helper()
	want, due := []int(nil), api.ErrTie
	if len(x.matchings) == 1 {
		want, due = x.matchings[0], api.OK
	}
	if l, e := link.Only(f); !slices.Equal(l, want) || e != due {
		t.Errorf("Only of %v: %v, %v, not %v, %v", f, l, e, want, due)
	}
}

func checkSurePossible(t *testing.T, f link.File, x largest) {
	t.Helper()
	each, some := x.pairsIn(len(x.matchings)), x.pairsIn(1)
	if sure, possible := sureAndPossible(t, f); !slices.Equal(sure, each) || !slices.Equal(possible, some) {
		t.Errorf("Sure, Possible of %v: %v, %v, not %v, %v", f, sure, possible, each, some)
	}
}

func checkCosts(t *testing.T, f link.File, x largest) {
	t.Helper()
	for o := range f.Old {
		for n := range f.New {
			want, due := 0, api.ErrNone
			if slices.Contains(x.all, pair(o, n)) {
				want, due = costOf(f, x, pair(o, n)), api.OK
			}
			if c, e := link.Cost(f, o, n); c != want || e != due {
				t.Errorf("Cost of %d and %d of %v: %d, %v, not %d, %v", o, n, f, c, e, want, due)
			}
		}
	}
}

// P5.2 to P5.6: files as great as they may be.
func TestGreatest(t *testing.T) {
	checkMatchAndCover(t, full(8, 8), 8)
	checkMatchAndCover(t, full(8, 7), 7)
	checkMatchAndCover(t, star(8), 1)
	checkMatchAndCover(t, row(8, 8), 8)
	checkMatchAndCover(t, row(8, 7), 7)
	if l, e := link.Only(row(8, 8)); !slices.Equal(l, list(0, 1, 2, 3, 4, 5, 6, 7)) || e != api.OK {
		t.Errorf("Only of a row: %v, %v", l, e)
	}
	sure, possible := sureAndPossible(t, full(8, 8))
	if len(sure) != 0 || len(possible) != 64 {
		t.Errorf("Sure, Possible of all pairs: %v, %v", sure, possible)
	}
	sure, possible = sureAndPossible(t, row(8, 8))
	if len(sure) != 8 || len(possible) != 8 {
		t.Errorf("Sure, Possible of a row: %v, %v", sure, possible)
	}
	all := list(0, 1, 2, 3, 4, 5, 6, 7)
	if old, new, e := link.Always(full(8, 8)); !slices.Equal(old, all) || !slices.Equal(new, all) || e != api.OK {
		t.Errorf("Always of all pairs: %v, %v, %v", old, new, e)
	}
	if old, new, e := link.Always(row(8, 7)); len(old) != 0 || !slices.Equal(new, all[:7]) || e != api.OK {
		t.Errorf("Always of a row: %v, %v, %v", old, new, e)
	}
	for _, p := range pairsOf(row(8, 8)) {
		want := p.Old - p.New
		if n, e := link.Cost(row(8, 8), p.Old, p.New); n != want || e != api.OK {
			t.Errorf("Cost of %v in a row: %d, %v", p, n, e)
		}
	}
	// Moves and persons as many as they may be.
	f := example()
	f.Moves = slices.Repeat(moves(move(1, 2), move(1, 3)), 8)
	f.Old[0].Who.Records = slices.Repeat([]age.Record{record(8000, 0, 20)}, 8)
	f.Old[0].Who.Rules = slices.Repeat([]age.Rule{{Base: 1}}, 4)
	f.Old[0].Names = list(0, 1, 5, 99)
	checkMatchAndCover(t, f, 3)
}

// P5.6: matchings and what is none, for any number.
func TestProveMatch(t *testing.T) {
	f := example()
	for _, x := range []struct {
		l    []int
		many int
		want bool
	}{
		{list(0, 1, 2), 3, true}, {list(0, 1, 2), 4, false}, {list(0, 1, 2), math.MaxInt, false}, {list(0, 1, 2), -1, true}, {list(0, 1, 2), math.MinInt, true},
		{list(2, 1, -1), 2, true}, {list(2, 1, -1), 3, false}, {list(-1, -1, -1), 0, true}, {list(-1, -1, -1), 1, false}, {list(-1, 1, 2), 2, true},
		{list(2, 1, 2), 0, false}, {list(1, 0, 2), 0, false}, {list(0, 1, 0), 0, false}, {list(0, 1), 0, false}, {list(0, 1, 2, -1), 0, false}, {nil, 0, false},
		{list(-2, 1, 2), 0, false}, {list(0, 3, 2), 0, false}, {list(0, 1, 8), 0, false}, {list(math.MinInt, 1, 2), 0, false}, {list(0, 1, math.MaxInt), 0, false},
	} {
		if ok := link.ProveMatch(f, x.l, x.many); ok != x.want {
			t.Errorf("ProveMatch of %v, %d: %v", x.l, x.many, ok)
		}
	}
	if !link.ProveMatch(link.File{}, nil, 0) || link.ProveMatch(link.File{}, list(-1), 0) || link.ProveMatch(link.File{}, nil, 1) {
		t.Error("ProveMatch of a file of nobody")
	}
	if f := star(8); !link.ProveMatch(f, list(7), 1) || link.ProveMatch(f, list(8), 1) {
		t.Error("ProveMatch of a star")
	}
}

// P5.6: covers and what is none, for any number.
func TestProveCover(t *testing.T) {
	f := example()
	for _, x := range []struct {
		old, new []int
		many     int
		want     bool
	}{
		{list(0, 1, 2), nil, 3, true}, {list(0, 1, 2), nil, 2, false}, {nil, list(0, 1, 2), 3, true}, {nil, list(0, 1, 2), 2, false},
		{list(0, 1), list(2), 3, true}, {list(0, 1), list(2), 2, false}, {list(0, 1), list(2), math.MaxInt, true}, {list(0, 1), list(2), math.MinInt, false}, {list(0, 1), list(2), -1, false},
		{list(0, 1), nil, 9, false}, {list(0, 2), nil, 9, false}, {list(1, 2), nil, 9, false}, {list(1), list(2), 9, false}, {list(1, 2), list(0), 9, false}, {list(1, 2), list(0, 2), 9, true}, {list(0), list(1, 2), 3, true},
		{nil, nil, 9, false}, {list(0, 1, 2), list(0, 1, 2), 6, true}, {list(0, 1, 2), list(0, 1, 2), 5, false},
		{list(1, 0), list(2), 9, false}, {list(0, 0, 1), list(2), 9, false}, {list(1), list(2, 0), 9, false}, {list(1), list(0, 2, 2), 9, false}, {list(0, 1, 2), list(1, 0), 9, false}, {list(1, 0), list(0, 1, 2), 9, false},
		{list(0, 1, 2, 3), nil, 9, false}, {nil, list(0, 1, 2, 3), 9, false}, {list(-1, 0, 1, 2), nil, 9, false}, {nil, list(-1, 0, 1, 2), 9, false}, {list(math.MinInt, 0, 1, 2), nil, 9, false}, {nil, list(0, 1, 2, math.MaxInt), 9, false},
	} {
		if ok := link.ProveCover(f, x.old, x.new, x.many); ok != x.want {
			t.Errorf("ProveCover of %v, %v, %d: %v", x.old, x.new, x.many, ok)
		}
	}
	if !link.ProveCover(link.File{}, nil, nil, 0) || link.ProveCover(link.File{}, list(0), nil, 9) || link.ProveCover(link.File{}, nil, nil, -1) {
		t.Error("ProveCover of a file of nobody")
	}
	// The lists may have different lengths.
	if f := star(8); !link.ProveCover(f, nil, list(0, 1, 2, 3, 4, 5, 6, 7), 8) || link.ProveCover(f, nil, list(1, 2, 3, 4, 5, 6, 7), 8) || link.ProveCover(f, list(0, 1), nil, 9) || !link.ProveCover(f, list(0), list(7), 9) {
		t.Error("ProveCover of a star")
	}
}

// P5.6, P5.7: all lists of links are tried, and all covers.
func TestAllProofs(t *testing.T) {
	matchings, covers := 0, 0
	forFiles(t, 3, func(t *testing.T, d *dice, f link.File) {
		old, new := len(f.Old), len(f.New)
		if old > 3 || new > 3 {
			return
		}
		all := pairsOf(f)
		most := mostOf(t, f)
		forLists(old, new, func(l []int) {
			is := isMatching(old, all, l)
			for _, many := range list(sizeOf(l), sizeOf(l)+1) {
				if link.ProveMatch(f, l, many) != (is && many == sizeOf(l)) {
					t.Errorf("ProveMatch of %v, %v, %d: %v", f, l, many, !is)
				}
			}
			if is {
				matchings++
			}
			if is && sizeOf(l) > most {
				t.Errorf("Most of %v: %d; %v has more", f, most, l)
			}
		})
		for bits := range 1 << (old + new) {
			a, b := members(bits, old), members(bits>>old, new)
			many := len(a) + len(b)
			is := isCover(all, a, b)
			if link.ProveCover(f, a, b, many) != is || link.ProveCover(f, a, b, many-1) {
				t.Errorf("ProveCover of %v, %v, %v: %v", f, a, b, !is)
			}
			if is {
				covers++
			}
			if is && many < most {
				t.Errorf("Most of %v: %d; %v, %v are a smaller cover", f, most, a, b)
			}
		}
	})
	if matchings < 1000 || covers < 1000 {
		t.Errorf("only %d matchings and %d covers", matchings, covers)
	}
}

// forLists calls do with all lists of so many numbers, from -1 to below the other number.
func forLists(many, below int, do func(l []int)) {
	var choose func(l []int)
	choose = func(l []int) {
		if len(l) == many {
			do(l)
			return
		}
		for n := -1; n < below; n++ {
			choose(append(slices.Clone(l), n))
		}
	}
	choose(nil)
}
