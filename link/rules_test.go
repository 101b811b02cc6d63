package link_test

import (
	"math"
	"slices"
	"testing"

	"tithing/age"
	"tithing/api"
	"tithing/link"
)

// roomy returns the list with free room behind it, which nobody may write to either.
func roomy[T any](list []T) []T { return slices.Grow(slices.Clone(list), 8) }

// whole returns the list with all the room behind it.
func whole[T any](list []T) []T { return slices.Clone(list[:cap(list)]) }

// spoil writes to all the memory of the list, up to its capacity.
func spoil[T any](list []T, with T) {
	list = list[:cap(list)]
	for i := range list {
		list[i] = with
	}
}

func roomyEntries(l []link.Entry) []link.Entry {
	out := roomy(copyOfEntries(l))
	for i := range out {
		out[i].Names = roomy(out[i].Names)
		out[i].Who.Rules = roomy(out[i].Who.Rules)
		out[i].Who.Records = roomy(out[i].Who.Records)
	}
	return out
}

// wholeEntries returns the entries with all the room behind them and behind their lists.
func wholeEntries(l []link.Entry) []link.Entry {
	out := whole(l)
	for i := range out {
		out[i].Names = whole(out[i].Names)
		out[i].Who.Rules = whole(out[i].Who.Rules)
		out[i].Who.Records = whole(out[i].Who.Records)
	}
	return out
}

func sameEntries(a, b []link.Entry) bool {
	return slices.EqualFunc(a, b, func(x, y link.Entry) bool {
		return x.Sex == y.Sex && x.Place == y.Place && slices.Equal(x.Names, y.Names) && x.Who.Born == y.Who.Born && slices.Equal(x.Who.Rules, y.Who.Rules) && slices.Equal(x.Who.Records, y.Who.Records)
	})
}

// R4: arguments are not written to, not even behind their ends.
func TestArgumentsAreKept(t *testing.T) {
	f := towns(700, move(1, 2), move(1, 3))
	f.Old[0].Who.Records = []age.Record{record(8000, 0, 20)}
	f = link.File{Old: roomyEntries(f.Old), New: roomyEntries(f.New), Moves: roomy(f.Moves)}
	links, a, b := roomy(list(0, 1, -1)), roomy(list(0, 1)), roomy(list(2))
	old, new, all := wholeEntries(f.Old), wholeEntries(f.New), whole(f.Moves)
	links2, a2, b2 := whole(links), whole(a), whole(b)

	link.CheckFile(f)
	for _, call := range calls(f, 0, 0) {
		call()
	}
	link.ProveMatch(f, links, 1)
	link.ProveCover(f, a, b, 3)

	if !sameEntries(wholeEntries(f.Old), old) || !sameEntries(wholeEntries(f.New), new) || !slices.Equal(whole(f.Moves), all) {
		t.Errorf("the file is changed: %v", f)
	}
	if !slices.Equal(whole(links), links2) || !slices.Equal(whole(a), a2) || !slices.Equal(whole(b), b2) {
		t.Errorf("the lists are changed: %v, %v, %v", whole(links), whole(a), whole(b))
	}
}

// R4: results are in memory of their own.
func TestMemory(t *testing.T) {
	f, only := row(3, 2), row(3, 3)
	most := mostOf(t, f)
	for range 2 {
		checkPairs(t, f, pair(0, 0), pair(1, 0), pair(1, 1), pair(2, 1))
		checkPairs(t, only, pair(0, 0), pair(1, 0), pair(1, 1), pair(2, 1), pair(2, 2))
		sure, possible := sureAndPossible(t, only)
		if !slices.Equal(sure, pairs(pair(0, 0), pair(1, 1), pair(2, 2))) || !slices.Equal(possible, sure) {
			t.Errorf("Sure, Possible: %v, %v", sure, possible)
		}
		spoil(sure, pair(-7, -7))
		spoil(possible, pair(-7, -7))
		spoil(allPairs(t, f), pair(-7, -7))
		checkMatchAndCover(t, f, most)
		l, _ := link.Match(f)
		spoil(l, -7)
		if l, e := link.Only(only); !slices.Equal(l, list(0, 1, 2)) || e != api.OK {
			t.Errorf("Only: %v, %v", l, e)
		}
		l, _ = link.Only(only)
		spoil(l, -7)
	}
}

// R4: two results of a call do not share memory either.
func TestTwoResults(t *testing.T) {
	f := fromTable("x.", "x.", "xx")
	for _, call := range []func(f link.File) ([]int, []int, api.Errno){link.Always, link.Cover} {
		old, new, e := call(f)
		for range 2 {
			old2, new2, e2 := call(f)
			if !slices.Equal(old, old2) || !slices.Equal(new, new2) || e != api.OK || e2 != api.OK {
				t.Errorf("%v, %v, %v; again: %v, %v, %v", old, new, e, old2, new2, e2)
			}
			spoil(old2, -7)
			if !slices.Equal(new, new2) {
				t.Errorf("both share memory: %v", new2)
			}
			old2, new2, _ = call(f)
			spoil(new2, -7)
			if !slices.Equal(old, old2) {
				t.Errorf("both share memory: %v", old2)
			}
		}
	}
}

// R3: nil and a list without elements are the same.
func TestEmptyLists(t *testing.T) {
	for _, empty := range [][]link.Entry{nil, {}} {
		for _, none := range [][]link.Move{nil, {}} {
			for _, l := range [][]int{nil, {}} {
				f := link.File{Old: empty, New: empty, Moves: none}
				checkMatchAndCover(t, f, 0)
				checkPairs(t, f)
				if !link.ProveMatch(f, l, 0) || !link.ProveCover(f, l, l, 0) {
					t.Errorf("proofs of %v", f)
				}
				f.Old, f.New = entries(plain(5)), entries(plain(5))
				f.Old[0].Who.Records, f.New[0].Who.Records = []age.Record{}, nil
				checkMatchAndCover(t, f, 1)
				if link.ProveMatch(f, l, 0) || link.ProveCover(f, l, l, 9) || !link.ProveCover(f, l, list(0), 1) || !link.ProveCover(f, list(0), l, 1) {
					t.Errorf("proofs of %v", f)
				}
				f.Old[0].Names = l
				if e := link.CheckFile(f); e != api.ErrArg {
					t.Errorf("CheckFile of %v: %v", f, e)
				}
			}
		}
	}
}

// wild makes a number of any size.
func (d *dice) wild() int {
	switch d.upTo(5) {
	case 0:
		return math.MinInt + d.upTo(2)
	case 1:
		return math.MaxInt - d.upTo(2)
	case 2:
		return d.from(-2, 2)
	default:
		return d.from(-10, 110)
	}
}

func (d *dice) wildList(most int) []int {
	var l []int
	for range d.upTo(most) {
		l = append(l, d.wild())
	}
	return l
}

func (d *dice) wildPerson() age.Person {
	p := d.throwPerson()
	switch d.upTo(4) {
	case 0:
		p.Born = age.Range{Lo: d.wild(), Hi: d.wild()}
	case 1:
		p.Rules = append(p.Rules, age.Rule{From: d.wild(), Base: d.wild(), Mode: d.wild(), Error: d.wild()})
	case 2:
		p.Records = append(p.Records, record(d.wild(), d.wild(), d.wild()))
	case 3:
		p.Rules = p.Rules[:d.upTo(2)]
	default:
		p.Records = slices.Repeat([]age.Record{record(7300, 0, 20)}, d.upTo(10))
	}
	return p
}

func (d *dice) wildEntry() link.Entry {
	e := d.throwEntry(5, 2)
	switch d.upTo(3) {
	case 0:
		e.Sex, e.Place = d.wild(), d.upTo(10)
	case 1:
		e.Names = d.wildList(6)
	case 2:
		e.Who = d.wildPerson()
	default:
		e.Sex, e.Place = d.upTo(3), d.wild()
	}
	return e
}

// wildFile spoils a file in some places.
func (d *dice) wildFile() link.File {
	f := d.throwFile(8)
	switch d.upTo(8) {
	case 0:
		f.Old = append(f.Old, d.wildEntry())
	case 1:
		f.New = append(f.New, d.wildEntry())
	case 2:
		f.Moves = append(f.Moves, move(d.wild(), d.wild()))
	case 3:
		f.Moves = slices.Repeat(moves(move(1, 1)), d.upTo(20))
	case 4:
		f.New = slices.Repeat(entries(d.wildEntry()), d.upTo(10))
	}
	return f
}

// P1, R2: each call returns, whatever its arguments are, and with an error all else is zero.
func TestWild(t *testing.T) {
	d := dice(9)
	right, wrong := 0, 0
	for range 2000 {
		f := d.wildFile()
		valid := link.CheckFile(f)
		for call, do := range calls(f, d.wild(), d.from(-1, 8)) {
			e, zero := do()
			if e != api.OK && !zero {
				t.Fatalf("%s of %v: %v, and not zero", call, f, e)
			}
			if valid != api.OK && e != valid {
				t.Fatalf("%s of %v: %v; CheckFile: %v", call, f, e, valid)
			}
			if e == api.OK {
				right++
			} else {
				wrong++
			}
		}
		l, a, b := d.wildList(9), d.wildList(3), d.wildList(3)
		if valid == api.OK && d.upTo(1) == 0 {
			l = d.throwMatching(len(f.Old), pairsOf(f))
			a, b = d.throwCover(pairsOf(f))
		}
		if link.ProveMatch(f, l, math.MinInt) != (valid == api.OK && isMatching(len(f.Old), pairsOf(f), l)) {
			t.Fatalf("ProveMatch of %v, %v; CheckFile: %v", f, l, valid)
		}
		if ok := link.ProveCover(f, a, b, math.MaxInt); ok && (valid != api.OK || !isCover(pairsOf(f), a, b)) {
			t.Fatalf("ProveCover of %v, %v, %v; CheckFile: %v", f, a, b, valid)
		}
		if link.ProveMatch(f, l, math.MaxInt) || link.ProveCover(f, a, b, math.MinInt) {
			t.Fatalf("proofs of %v that nothing has", f)
		}
	}
	if right < 3000 || wrong < 3000 {
		t.Errorf("only %d calls have a result, and %d an error", right, wrong)
	}
}

// A call with equal arguments returns equal results, also where the chapter leaves a choice.
func TestAgain(t *testing.T) {
	forFiles(t, 8, func(t *testing.T, d *dice, f link.File) {
		l, _ := link.Match(f)
		a, b, _ := link.Cover(f)
		for range 3 {
			if k, e := link.Match(copyOf(f)); !slices.Equal(k, l) || e != api.OK {
				t.Errorf("Match of %v: %v; again: %v, %v", f, l, k, e)
			}
			if c, k, e := link.Cover(copyOf(f)); !slices.Equal(c, a) || !slices.Equal(k, b) || e != api.OK {
				t.Errorf("Cover of %v: %v, %v; again: %v, %v, %v", f, a, b, c, k, e)
			}
		}
	})
}
