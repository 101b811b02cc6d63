package link_test

import (
	"math"
	"slices"
	"testing"

	"tithing/age"
	"tithing/api"
	"tithing/link"
)

// wrongFile is not valid, with its error.
type wrongFile struct {
	f link.File
	e api.Errno
}

// spoilt returns the chapter's file, changed.
func spoilt(e api.Errno, changes ...func(f *link.File)) wrongFile {
	f := example()
	for _, change := range changes {
		change(&f)
	}
	return wrongFile{f, e}
}

// entryChange changes an entry so that it is not valid.
type entryChange struct {
	change func(x *link.Entry)
	e      api.Errno
}

func wrongEntries() map[string]entryChange {
	out := map[string]entryChange{
		"no names":                {func(x *link.Entry) { x.Names = nil }, api.ErrArg},
		"empty names":             {func(x *link.Entry) { x.Names = []int{} }, api.ErrArg},
		"5 names":                 {func(x *link.Entry) { x.Names = list(1, 2, 3, 4, 5) }, api.ErrLimit},
		"5 wrong names":           {func(x *link.Entry) { x.Names = list(5, 5, -1, 100, 0) }, api.ErrLimit},
		"10000 names":             {func(x *link.Entry) { x.Names = make([]int, 10000) }, api.ErrLimit},
		"a name twice":            {func(x *link.Entry) { x.Names = list(5, 5) }, api.ErrArg},
		"a name twice, last":      {func(x *link.Entry) { x.Names = list(3, 4, 5, 5) }, api.ErrArg},
		"names that fall":         {func(x *link.Entry) { x.Names = list(6, 5) }, api.ErrArg},
		"names that rise to fall": {func(x *link.Entry) { x.Names = list(5, 7, 6) }, api.ErrArg},
		"no person":               {func(x *link.Entry) { x.Who = age.Person{} }, api.ErrArg},
		"no rules":                {func(x *link.Entry) { x.Who.Rules = nil }, api.ErrArg},
		"a wrong rule":            {func(x *link.Entry) { x.Who.Rules = []age.Rule{{Base: 13}} }, api.ErrArg},
		"5 rules":                 {func(x *link.Entry) { x.Who.Rules = make([]age.Rule, 5) }, api.ErrLimit},
		"9 records":               {func(x *link.Entry) { x.Who.Records = make([]age.Record, 9) }, api.ErrLimit},
		"a wrong record":          {func(x *link.Entry) { x.Who.Records = []age.Record{record(0, 2, 0)} }, api.ErrArg},
		"born never":              {func(x *link.Entry) { x.Who.Born = age.Range{Lo: 1, Hi: 0} }, api.ErrArg},
		"born too late":           {func(x *link.Entry) { x.Who.Born.Hi = 50001 }, api.ErrArg},
		"born too early":          {func(x *link.Entry) { x.Who.Born.Lo = -50001 }, api.ErrArg},
	}
	for what, n := range map[string]int{"-1": -1, "the smallest": math.MinInt, "the greatest": math.MaxInt} {
		out["Sex "+what] = entryChange{func(x *link.Entry) { x.Sex = n }, api.ErrArg}
		out["Place "+what] = entryChange{func(x *link.Entry) { x.Place = n }, api.ErrArg}
		out["the name "+what] = entryChange{func(x *link.Entry) { x.Names = list(n) }, api.ErrArg}
	}
	out["Sex 3"] = entryChange{func(x *link.Entry) { x.Sex = 3 }, api.ErrArg}
	out["Place 10"] = entryChange{func(x *link.Entry) { x.Place = 10 }, api.ErrArg}
	out["the name 100"] = entryChange{func(x *link.Entry) { x.Names = list(5, 100) }, api.ErrArg}
	return out
}

func allWrongFiles() map[string]wrongFile {
	out := map[string]wrongFile{
		"9 old entries":            spoilt(api.ErrLimit, func(f *link.File) { f.Old = slices.Repeat(f.Old, 3) }),
		"9 new entries":            spoilt(api.ErrLimit, func(f *link.File) { f.New = slices.Repeat(f.New, 3) }),
		"9 entries that are wrong": spoilt(api.ErrLimit, func(f *link.File) { f.New = make([]link.Entry, 9) }),
		"1000 old entries":         spoilt(api.ErrLimit, func(f *link.File) { f.Old = make([]link.Entry, 1000) }),
		"17 moves":                 spoilt(api.ErrLimit, func(f *link.File) { f.Moves = slices.Repeat(moves(move(1, 2)), 17) }),
		"17 moves that are wrong":  spoilt(api.ErrLimit, func(f *link.File) { f.Moves = slices.Repeat(moves(move(-1, 10)), 17) }),
	}
	for what, x := range wrongEntries() {
		for i := range 3 {
			at := " at " + string(rune('0'+i))
			out["old "+what+at] = spoilt(x.e, func(f *link.File) { x.change(&f.Old[i]) })
			out["new "+what+at] = spoilt(x.e, func(f *link.File) { x.change(&f.New[i]) })
		}
	}
	for what, m := range map[string]link.Move{"from -1": move(-1, 1), "from 10": move(10, 1), "to -1": move(1, -1), "to 10": move(1, 10), "from the smallest": move(math.MinInt, 1), "to the greatest": move(1, math.MaxInt)} {
		out["a first move "+what] = spoilt(api.ErrArg, func(f *link.File) { f.Moves[0] = m })
		out["a last move "+what] = spoilt(api.ErrArg, func(f *link.File) { f.Moves = append(slices.Repeat(moves(move(1, 2)), 15), m) })
		out["a move and nobody "+what] = wrongFile{link.File{Moves: moves(m)}, api.ErrArg}
	}
	return out
}

// Changes that are not valid, in the order of their errors.
func longNames(f *link.File)   { f.New[2].Names = make([]int, 5) }
func longMoves(f *link.File)   { f.Moves = make([]link.Move, 17) }
func longNew(f *link.File)     { f.New = slices.Repeat(f.New, 3) }
func oldRules(f *link.File)    { f.Old[1].Who.Rules = make([]age.Rule, 5) }
func oldPerson(f *link.File)   { f.Old[2].Who.Rules = nil }
func newRules(f *link.File)    { f.New[1].Who.Rules = make([]age.Rule, 5) }
func newPerson(f *link.File)   { f.New[0].Who.Born.Lo = 5000 }
func wrongSex(f *link.File)    { f.Old[0].Sex = 3 }
func wrongNames(f *link.File)  { f.Old[0].Names = list(100) }
func wrongPlace(f *link.File)  { f.New[0].Place = 10 }
func wrongMove(f *link.File)   { f.Moves[0] = move(-1, 0) }
func badRecords(f *link.File)  { f.Old[0].Who.Records = make([]age.Record, 9) }
func lastRecords(f *link.File) { f.Old[2].Who.Records = make([]age.Record, 9) }

// filesByOrder have several faults: the first one by the chapter's order counts.
func filesByOrder() map[string]wrongFile {
	return map[string]wrongFile{
		"long names before an old person":       spoilt(api.ErrLimit, oldPerson, longNames),
		"long moves before an old person":       spoilt(api.ErrLimit, oldPerson, longMoves),
		"long lists before an old person":       spoilt(api.ErrLimit, oldPerson, longNew),
		"long names before a sex":               spoilt(api.ErrLimit, wrongSex, longNames),
		"long moves before names":               spoilt(api.ErrLimit, wrongNames, longMoves),
		"an old person before a new one":        spoilt(api.ErrArg, newRules, oldPerson),
		"old rules before a new person":         spoilt(api.ErrLimit, newPerson, oldRules),
		"the first old person":                  spoilt(api.ErrLimit, oldRules, oldPerson),
		"the first old person before its rules": spoilt(api.ErrLimit, badRecords, oldPerson),
		"a person before later records":         spoilt(api.ErrArg, func(f *link.File) { f.Old[1].Who.Rules = nil }, lastRecords),
		"the first new person":                  spoilt(api.ErrArg, newRules, newPerson),
		"an old person before a sex":            spoilt(api.ErrLimit, wrongSex, lastRecords),
		"a new person before old names":         spoilt(api.ErrLimit, wrongNames, newRules),
		"a new person before a place":           spoilt(api.ErrLimit, wrongPlace, newRules),
		"a new person before a move":            spoilt(api.ErrLimit, wrongMove, newRules),
		"all other faults":                      spoilt(api.ErrArg, wrongSex, wrongNames, wrongPlace, wrongMove),
	}
}

// P5.1: the error of the file, or OK.
func TestCheckFile(t *testing.T) {
	for _, files := range []map[string]wrongFile{allWrongFiles(), filesByOrder()} {
		for what, x := range files {
			if e := link.CheckFile(x.f); e != x.e {
				t.Errorf("%s: %v, not %v", what, e, x.e)
			}
		}
	}
	valid := func(changes ...func(f *link.File)) link.File { return spoilt(api.OK, changes...).f }
	for what, f := range map[string]link.File{
		"the example":           example(),
		"nobody":                {},
		"moves alone":           {Moves: moves(move(0, 9), move(9, 0))},
		"8 entries each":        full(8, 8),
		"16 equal moves":        valid(func(f *link.File) { f.Moves = slices.Repeat(moves(move(1, 2)), 16) }),
		"a move to itself":      valid(func(f *link.File) { f.Moves = moves(move(3, 3)) }),
		"4 names":               valid(func(f *link.File) { f.Old[0].Names = list(0, 1, 98, 99) }),
		"the highest":           valid(func(f *link.File) { f.New[0].Sex, f.New[0].Place, f.New[0].Names = 2, 9, list(99) }),
		"the lowest":            valid(func(f *link.File) { f.New[0].Sex, f.New[0].Place, f.New[0].Names = 0, 0, list(0) }),
		"any day":               valid(func(f *link.File) { f.Old[0].Who.Born = age.Range{Lo: -50000, Hi: 50000} }),
		"4 rules":               valid(func(f *link.File) { f.Old[0].Who.Rules = slices.Repeat([]age.Rule{{Base: 1}}, 4) }),
		"8 records":             valid(func(f *link.File) { f.Old[0].Who.Records = make([]age.Record, 8) }),
		"records against Born":  valid(func(f *link.File) { f.Old[0].Who.Records = []age.Record{record(-5, 0, 0)} }),
		"nobody new, and moves": valid(func(f *link.File) { f.New = nil }),
	} {
		if e := link.CheckFile(f); e != api.OK {
			t.Errorf("%s: %v", what, e)
		}
		if _, e := link.Pairs(f); e != api.OK {
			t.Errorf("Pairs, %s: %v", what, e)
		}
	}
}

// calls are all calls with an error but CheckFile: each returns its error, and whether its other results are zero.
func calls(f link.File, old, new int) map[string]func() (api.Errno, bool) {
	return map[string]func() (api.Errno, bool){
		"Pairs":    func() (api.Errno, bool) { l, e := link.Pairs(f); return e, len(l) == 0 },
		"Most":     func() (api.Errno, bool) { n, e := link.Most(f); return e, n == 0 },
		"Match":    func() (api.Errno, bool) { l, e := link.Match(f); return e, len(l) == 0 },
		"Only":     func() (api.Errno, bool) { l, e := link.Only(f); return e, len(l) == 0 },
		"Sure":     func() (api.Errno, bool) { l, e := link.Sure(f); return e, len(l) == 0 },
		"Possible": func() (api.Errno, bool) { l, e := link.Possible(f); return e, len(l) == 0 },
		"Always":   func() (api.Errno, bool) { a, b, e := link.Always(f); return e, len(a)+len(b) == 0 },
		"Cost":     func() (api.Errno, bool) { n, e := link.Cost(f, old, new); return e, n == 0 },
		"Cover":    func() (api.Errno, bool) { a, b, e := link.Cover(f); return e, len(a)+len(b) == 0 },
	}
}

// P5.1 to P5.6: the error of the file is that of each call, before its own, and nothing is proved of such a file.
func TestWrongFiles(t *testing.T) {
	for _, files := range []map[string]wrongFile{allWrongFiles(), filesByOrder()} {
		for what, x := range files {
			for _, n := range list(0, 1, -1, 9) {
				for call, f := range calls(x.f, 0, n) {
					if e, zero := f(); e != x.e || !zero {
						t.Errorf("%s, %s: %v, not %v; zero: %v", call, what, e, x.e, zero)
					}
				}
			}
			links := slices.Repeat(list(-1), len(x.f.Old))
			if link.ProveMatch(x.f, links, 0) || link.ProveMatch(x.f, list(0, 1, 2), 0) || link.ProveMatch(x.f, nil, math.MinInt) {
				t.Errorf("ProveMatch, %s", what)
			}
			if link.ProveCover(x.f, list(0, 1, 2), nil, 9) || link.ProveCover(x.f, list(0, 1, 2), list(0, 1, 2), 9) || link.ProveCover(x.f, nil, nil, math.MaxInt) {
				t.Errorf("ProveCover, %s", what)
			}
		}
	}
}

// P5.5: entries that do not exist, and that are no pair.
func TestWrongCosts(t *testing.T) {
	for _, x := range []struct {
		f        link.File
		old, new int
		e        api.Errno
	}{
		{example(), 3, 0, api.ErrRange}, {example(), 0, 3, api.ErrRange}, {example(), -1, 0, api.ErrRange}, {example(), 0, -1, api.ErrRange}, {example(), 8, 8, api.ErrRange}, {example(), 7, 0, api.ErrRange}, {example(), 0, 7, api.ErrRange},
		{example(), math.MinInt, 0, api.ErrRange}, {example(), 0, math.MinInt, api.ErrRange}, {example(), math.MaxInt, 0, api.ErrRange}, {example(), 0, math.MaxInt, api.ErrRange},
		{example(), 0, 1, api.ErrNone}, {example(), 1, 0, api.ErrNone}, {example(), 2, 0, api.ErrNone}, {example(), 2, 1, api.ErrNone},
		{example(), 1, 3, api.ErrRange}, {example(), 3, 1, api.ErrRange},
		{star(5), 0, 4, api.OK}, {star(5), 0, 5, api.ErrRange}, {star(5), 1, 0, api.ErrRange}, {star(5), 4, 0, api.ErrRange},
		{link.File{}, 0, 0, api.ErrRange}, {link.File{Old: entries(plain(5))}, 0, 0, api.ErrRange}, {link.File{New: entries(plain(5))}, 0, 0, api.ErrRange},
	} {
		if n, e := link.Cost(x.f, x.old, x.new); n != 0 || e != x.e {
			t.Errorf("Cost of %d and %d of %v: %d, %v, not %v", x.old, x.new, x.f, n, e, x.e)
		}
	}
}

// P5.2: several largest matchings.
func TestTies(t *testing.T) {
	for what, f := range map[string]link.File{
		"the example":      towns(700, move(1, 2), move(1, 3)),
		"two and two":      full(2, 2),
		"one or the other": full(2, 1),
		"a star":           star(2),
		"the last ones":    fromTable("x..", ".xx", ".xx"),
		"the last one":     fromTable("x..", ".x.", "..x", "..x"),
		"a ring":           fromTable("xx.", ".xx", "x.x"),
	} {
		if l, e := link.Only(f); len(l) != 0 || e != api.ErrTie {
			t.Errorf("%s: %v, %v", what, l, e)
		}
	}
}
