package link_test

import (
	"slices"
	"testing"

	"tithing/age"
	"tithing/api"
	"tithing/link"
)

// born returns a person born from one day to another one; ages are written exactly by rule 0, and rounded by rule 1.
func born(low, high int, records ...age.Record) age.Person {
	return age.Person{Born: age.Range{Lo: low, Hi: high}, Rules: []age.Rule{{Base: 1}, {From: 20, Base: 5, Mode: age.Near, Error: 1}}, Records: records}
}

func record(day, rule, written int) age.Record {
	return age.Record{Day: day, Rule: rule, Written: written}
}

func entry(sex, place, low, high int, names ...int) link.Entry {
	return link.Entry{Who: born(low, high), Sex: sex, Names: names, Place: place}
}

// plain returns an entry that differs from others by its names only.
func plain(names ...int) link.Entry { return entry(0, 1, 0, 9, names...) }

func entries(l ...link.Entry) []link.Entry { return l }

func move(from, to int) link.Move { return link.Move{From: from, To: to} }

func moves(l ...link.Move) []link.Move { return l }

func pair(old, new int) link.Pair { return link.Pair{Old: old, New: new} }

func pairs(l ...link.Pair) []link.Pair { return l }

func list(l ...int) []int { return l }

// towns is the file of the chapter's examples; its old entry 2 was born on the day at the earliest.
func towns(day int, l ...link.Move) link.File {
	return link.File{
		Old:   entries(entry(0, 1, 0, 1000, 5), entry(1, 1, 0, 1000, 7, 9), entry(0, 2, day, 2000, 5)),
		New:   entries(entry(0, 1, 400, 900, 5), entry(link.Unknown, 3, 1000, 1500, 7), entry(0, 2, 100, 600, 5, 6)),
		Moves: l,
	}
}

// example is the file of the chapter's examples with both moves.
func example() link.File { return towns(500, move(1, 2), move(1, 3)) }

// row has new entries that each stand between two old ones.
func row(old, new int) link.File {
	var f link.File
	for i := range old {
		f.Old = append(f.Old, plain(i, i+1))
	}
	for i := range new {
		f.New = append(f.New, plain(i+1))
	}
	return f
}

// star has one entry that is a pair with all of the other list.
func star(many int) link.File {
	return link.File{Old: entries(plain(5)), New: slices.Repeat(entries(plain(4, 5)), many)}
}

// full has entries that are all pairs.
func full(old, new int) link.File {
	return link.File{Old: slices.Repeat(entries(plain(5)), old), New: slices.Repeat(entries(plain(5)), new)}
}

// fromTable has the pairs that are marked: each old entry has a key of its own, and each new one has those of the marked rows, at most four.
func fromTable(rows ...string) link.File {
	var f link.File
	for o, row := range rows {
		f.Old = append(f.Old, plain(o))
		for n, mark := range row {
			if o == 0 {
				f.New = append(f.New, plain())
			}
			if mark == 'x' {
				f.New[n].Names = append(f.New[n].Names, o)
			}
		}
	}
	for n := range f.New {
		if len(f.New[n].Names) == 0 {
			f.New[n].Names = list(99)
		}
	}
	return f
}

func copyOf(f link.File) link.File {
	return link.File{Old: copyOfEntries(f.Old), New: copyOfEntries(f.New), Moves: slices.Clone(f.Moves)}
}

func copyOfEntries(l []link.Entry) []link.Entry {
	out := slices.Clone(l)
	for i := range out {
		out[i].Names = slices.Clone(out[i].Names)
		out[i].Who.Rules = slices.Clone(out[i].Who.Rules)
		out[i].Who.Records = slices.Clone(out[i].Who.Records)
	}
	return out
}

// same tries all days of birth.
func same(p, q age.Person) bool {
	for day := p.Born.Lo; day <= p.Born.Hi; day++ {
		if age.ProveBirth(p, day) && age.ProveBirth(q, day) {
			return true
		}
	}
	return false
}

// arePair tells what the chapter defines as a pair.
func arePair(old, new link.Entry, l []link.Move) bool {
	sexes := old.Sex == new.Sex || old.Sex == 2 || new.Sex == 2
	places := old.Place == new.Place || slices.Contains(l, move(old.Place, new.Place))
	names := false
	for _, a := range old.Names {
		for _, b := range new.Names {
			names = names || a == b
		}
	}
	return sexes && places && names && same(old.Who, new.Who)
}

// pairsOf returns all pairs, as the chapter defines them.
func pairsOf(f link.File) []link.Pair {
	var out []link.Pair
	for o, old := range f.Old {
		for n, new := range f.New {
			if arePair(old, new, f.Moves) {
				out = append(out, pair(o, n))
			}
		}
	}
	return out
}

func sizeOf(l []int) int {
	return len(l) - len(slices.DeleteFunc(slices.Clone(l), func(n int) bool { return n != -1 }))
}

// forMatchings calls do with all matchings of so many old entries.
func forMatchings(old int, all []link.Pair, do func(l []int)) {
	var choose func(l []int)
	choose = func(l []int) {
		if len(l) == old {
			do(l)
			return
		}
		choose(append(slices.Clone(l), -1))
		for _, p := range all {
			if p.Old == len(l) && !slices.Contains(l, p.New) {
				choose(append(slices.Clone(l), p.New))
			}
		}
	}
	choose(nil)
}

// largest are all largest matchings of a file, and their pairs.
type largest struct {
	size      int
	matchings [][]int
	all       []link.Pair
}

// largestOf finds all largest matchings: all matchings are tried.
func largestOf(f link.File) largest {
	x := largest{all: pairsOf(f)}
	forMatchings(len(f.Old), x.all, func(l []int) {
		if n := sizeOf(l); n > x.size {
			x.size, x.matchings = n, nil
		}
		if sizeOf(l) == x.size {
			x.matchings = append(x.matchings, l)
		}
	})
	return x
}

// having returns how many of the largest matchings have the pair.
func (x largest) having(p link.Pair) int {
	many := 0
	for _, l := range x.matchings {
		if l[p.Old] == p.New {
			many++
		}
	}
	return many
}

// pairsIn returns the pairs that at least so many of the largest matchings have.
func (x largest) pairsIn(least int) []link.Pair {
	return slices.DeleteFunc(slices.Clone(x.all), func(p link.Pair) bool { return x.having(p) < least })
}

// always returns the entries that each largest matching links, of so many old and new ones.
func (x largest) always(manyOld, manyNew int) (old, new []int) {
	for n := range manyOld {
		if !slices.ContainsFunc(x.matchings, func(l []int) bool { return l[n] == -1 }) {
			old = append(old, n)
		}
	}
	for n := range manyNew {
		if !slices.ContainsFunc(x.matchings, func(l []int) bool { return !slices.Contains(l, n) }) {
			new = append(new, n)
		}
	}
	return old, new
}

// costOf finds the cost of a pair: all matchings are tried.
func costOf(f link.File, x largest, p link.Pair) int {
	most := 0
	forMatchings(len(f.Old), x.all, func(l []int) {
		if l[p.Old] == p.New {
			most = max(most, sizeOf(l))
		}
	})
	return x.size - most
}

// isCover tells what the chapter defines as a cover.
func isCover(all []link.Pair, old, new []int) bool {
	return !slices.ContainsFunc(all, func(p link.Pair) bool { return !slices.Contains(old, p.Old) && !slices.Contains(new, p.New) })
}

// members returns the numbers whose bits are set.
func members(bits, most int) []int {
	var l []int
	for n := range most {
		if bits>>n&1 == 1 {
			l = append(l, n)
		}
	}
	return l
}

// dice are thrown in the same way in each run.
type dice uint64

func (d *dice) upTo(most int) int {
	*d = *d*6364136223846793005 + 1442695040888963407
	return int(uint64(*d)>>33) % (most + 1)
}

func (d *dice) from(low, high int) int { return low + d.upTo(high-low) }

// order returns the numbers below most in another order.
func (d *dice) order(most int) []int {
	var l []int
	for n := range most {
		l = slices.Insert(l, d.upTo(n), n)
	}
	return l
}

// throwPerson makes a person born on some of the days 0 to 40, with records that split them.
func (d *dice) throwPerson() age.Person {
	low := d.upTo(20)
	p := born(low, low+d.upTo(20))
	for range max(0, d.upTo(4)-2) {
		p.Records = append(p.Records, record(7300+d.upTo(40), 0, 19+d.upTo(1)))
	}
	if d.upTo(5) == 0 {
		p.Records = append(p.Records, record(18*365+d.upTo(40), 1, 20-d.upTo(4)))
	}
	return p
}

// throwEntry makes an entry with names and a place up to these numbers.
func (d *dice) throwEntry(keys, places int) link.Entry {
	e := link.Entry{Who: d.throwPerson(), Sex: d.upTo(2), Place: d.upTo(places)}
	for range d.from(1, 4) {
		e.Names = append(e.Names, d.upTo(keys))
	}
	slices.Sort(e.Names)
	e.Names = slices.Compact(e.Names)
	return e
}

// throwFile makes a file with lists of so many entries at most.
func (d *dice) throwFile(most int) link.File {
	var f link.File
	keys, places := []int{2, 5, 9, 20}[d.upTo(3)], d.upTo(2)
	for range d.upTo(most) {
		f.Old = append(f.Old, d.throwEntry(keys, places))
	}
	for range d.upTo(most) {
		f.New = append(f.New, d.throwEntry(keys, places))
	}
	for range d.upTo(4) {
		f.Moves = append(f.Moves, move(d.upTo(places), d.upTo(places)))
	}
	return f
}

// throwTable makes a file with any pairs, of which about one in so many is one.
func (d *dice) throwTable(most, thin int) link.File {
	old, new := d.from(1, most), d.from(1, most)
	rows := make([][]byte, old)
	for o := range rows {
		rows[o] = []byte("........"[:new])
	}
	for n := range new {
		for range 4 {
			if d.upTo(thin) == 0 {
				rows[d.upTo(old-1)][n] = 'x'
			}
		}
	}
	var l []string
	for _, row := range rows {
		l = append(l, string(row))
	}
	return fromTable(l...)
}

// fixedFiles are the files of this file.
func fixedFiles() []link.File {
	return []link.File{
		example(), towns(500, move(1, 2)), towns(500), towns(700, move(1, 2), move(1, 3)), {}, {Old: entries(plain(5))}, {New: entries(plain(5))},
		row(3, 2), row(2, 3), row(2, 2), row(5, 5), star(1), star(6), full(2, 2), full(3, 2), full(4, 4),
		fromTable("xx.", "x..", "..."), fromTable("xx...", "x.x..", "...xx", "...xx"), fromTable("x.", "x.", "xx"), fromTable("....", "....", "xxxx", "...."),
	}
}

// forFiles calls check with the files of this file, and with many others of so many entries at most.
func forFiles(t *testing.T, most int, check func(t *testing.T, d *dice, f link.File)) {
	t.Helper()
	d := dice(1)
	for _, f := range fixedFiles() {
		check(t, &d, f)
	}
	for i := range 600 {
		f := d.throwFile(most)
		if i%3 == 0 {
			f = d.throwTable(most, d.upTo(2))
		}
		check(t, &d, f)
		if t.Failed() {
			return
		}
	}
}

func mostOf(t *testing.T, f link.File) int {
	t.Helper()
	n, e := link.Most(f)
	if e != api.OK {
		t.Fatalf("Most of %v: %v", f, e)
	}
	return n
}

// sureAndPossible returns what Sure and Possible do.
func sureAndPossible(t *testing.T, f link.File) (sure, possible []link.Pair) {
	t.Helper()
	sure, e := link.Sure(f)
	possible, e2 := link.Possible(f)
	if e != api.OK || e2 != api.OK {
		t.Fatalf("Sure, Possible of %v: %v, %v", f, e, e2)
	}
	return sure, possible
}

func allPairs(t *testing.T, f link.File) []link.Pair {
	t.Helper()
	l, e := link.Pairs(f)
	if e != api.OK {
		t.Fatalf("Pairs of %v: %v", f, e)
	}
	return l
}
