package sheet_test

import (
	"math"
	"slices"
	"testing"

	"tithing/api"
	"tithing/sheet"
)

// spoil writes to all the memory of the lists, up to their capacities.
func spoil(lists ...[]int) {
	for _, l := range lists {
		l = l[:cap(l)]
		for i := range l {
			l[i] = -7
		}
	}
}

// roomy returns the list with free room behind it, which nobody may write to either.
func roomy[T any](list []T) []T { return slices.Grow(slices.Clone(list), 8) }

// whole returns the list with all the room behind it.
func whole[T any](list []T) []T { return slices.Clone(list[:cap(list)]) }

// wholeCensus returns the census with all the room behind its lists.
func wholeCensus(c sheet.Census) sheet.Census {
	c.Entries, c.Same, c.Apart = whole(c.Entries), whole(c.Same), whole(c.Apart)
	return c
}

// R4: arguments are not written to, not even behind their ends.
func TestArgumentsAreKept(t *testing.T) {
	c := four(3, 5)
	c.Entries, c.Same, c.Apart = roomy(c.Entries), roomy(pairs(pair(0, 1))), roomy(pairs(pair(1, 2), pair(2, 3)))
	wrong := c
	wrong.Same = roomy(pairs(pair(0, 1), pair(1, 2)))
	persons := roomy(lists(roomy(list(0, 1)), roomy(list(2)), roomy(list(3))))
	codings := coding(roomy(list(1, 1, 2)), roomy(list(1, 2, 3)), roomy(list(1, 5, 3)), roomy(list(4, 5, 3)))
	codings.Codes = roomy(codings.Codes)
	solution := roomy(list(1, 5, 3))
	kept, keptWrong := wholeCensus(c), wholeCensus(wrong)
	numbers := slices.Concat(persons, codings.Codes, lists(codings.Wrong, solution))
	var keptNumbers [][]int
	for _, l := range numbers {
		keptNumbers = append(keptNumbers, whole(l))
	}

	for _, x := range []sheet.Census{c, wrong} {
		sheet.CheckCensus(x)
		sheet.ProveAssignment(x, persons)
		sheet.Persons(x)
		sheet.Together(x, 0, 2)
		sheet.Together(x, 0, 1)
		sheet.Doubled(x)
		sheet.Show(x, true)
		sheet.Show(x, false)
		sheet.Drop(x)
	}
	sheet.CheckCoding(codings)
	sheet.ProveSolution(codings, solution)
	sheet.Codes(codings)
	sheet.Errors(codings)

	if !sameCensus(wholeCensus(c), kept) || !sameCensus(wholeCensus(wrong), keptWrong) {
		t.Error("a census is changed")
	}
	for i, l := range numbers {
		if !slices.Equal(whole(l), keptNumbers[i]) {
			t.Errorf("list %d is changed: %v, not %v", i, whole(l), keptNumbers[i])
		}
	}
	if len(whole(persons)) < 4 || whole(persons)[3] != nil || whole(codings.Codes)[3] != nil {
		t.Error("a list of lists is changed")
	}
}

// checkApart reports a fault if two of the lists share memory.
func checkApart(t *testing.T, name string, l [][]int) {
	t.Helper()
	kept := copyLists(l)
	for i := range l {
		spoil(l[i])
		if !sameLists(l[i+1:], kept[i+1:]) {
			t.Errorf("lists of %s share memory: %v, not %v", name, l[i+1:], kept[i+1:])
		}
	}
}

// R4: results are in memory of their own.
func TestMemory(t *testing.T) {
	c := sheet.Census{Entries: alike(10).Entries, Same: pairs(pair(0, 9), pair(1, 0)), Apart: pairs(pair(9, 1)), Number: to(0, 4)}
	r := three(1, 1, 2)
	for range 2 {
		dropped, _ := sheet.Drop(c)
		if !slices.Equal(dropped, list(0)) {
			t.Errorf("Drop: %v", dropped)
		}
		spoil(dropped)
		right := c
		right.Same = c.Same[:1]
		checkShow(t, right, to(2, 4))
		for _, most := range []bool{false, true} {
			l, _ := sheet.Show(right, most)
			checkApart(t, "Show", l)
		}
		doubled, _ := sheet.Doubled(right)
		if !slices.Equal(doubled, list(0, 9)) {
			t.Errorf("Doubled: %v", doubled)
		}
		spoil(doubled)
		l, _ := sheet.Codes(r)
		if !sameLists(l, lists(list(1), allCodes(), list(3))) {
			t.Errorf("Codes: %v", l)
		}
		checkApart(t, "Codes", l)
	}
	if !slices.Equal(c.Entries, alike(10).Entries) || !slices.Equal(c.Same, pairs(pair(0, 9), pair(1, 0))) || !slices.Equal(c.Apart, pairs(pair(9, 1))) {
		t.Error("a census shares memory with a result")
	}
	if !sameLists(r.Codes, three().Codes) || !slices.Equal(r.Wrong, list(1, 1, 2)) {
		t.Error("a coding shares memory with a result")
	}
}

// R3: nil and a list without elements are the same.
func TestEmptyLists(t *testing.T) {
	for _, c := range []sheet.Census{{Omitted: to(0, 3), Number: to(2, 9)}, {Entries: []sheet.Entry{}, Same: []sheet.Pair{}, Apart: []sheet.Pair{}, Omitted: to(0, 3), Number: to(2, 9)}} {
		if p, o, e := sheet.Persons(c); p != to(0, 0) || o != to(2, 3) || e != api.OK {
			t.Errorf("Persons: %v, %v, %v", p, o, e)
		}
		for _, persons := range [][][]int{nil, {}} {
			if !sheet.ProveAssignment(c, persons) {
				t.Error("ProveAssignment of no persons")
			}
		}
		for _, persons := range [][][]int{{nil}, {{}}} {
			if sheet.ProveAssignment(c, persons) {
				t.Error("ProveAssignment of a person without entries")
			}
		}
		checkShow(t, c, to(0, 0))
		if l, e := sheet.Drop(c); len(l) != 0 || e != api.OK {
			t.Errorf("Drop: %v, %v", l, e)
		}
		if l, e := sheet.Doubled(c); len(l) != 0 || e != api.OK {
			t.Errorf("Doubled: %v, %v", l, e)
		}
	}
	for _, c := range []sheet.Coding{{}, {Codes: [][]int{}, Wrong: []int{}}, {Codes: [][]int{nil}, Wrong: list(0)}, {Codes: [][]int{{}}, Wrong: list(0)}} {
		if e := sheet.CheckCoding(c); e != api.ErrArg {
			t.Errorf("CheckCoding of %v: %v", c, e)
		}
		if sheet.ProveSolution(c, nil) || sheet.ProveSolution(c, []int{}) {
			t.Errorf("ProveSolution of %v", c)
		}
	}
}

// P7: coders lead to the same codes and errors in whatever order they are listed.
func TestAnyOrderOfCoders(t *testing.T) {
	forCodings(t, func(t *testing.T, d *dice, c sheet.Coding) {
		other := coding(slices.Clone(c.Wrong), copyLists(c.Codes)...)
		slices.Reverse(other.Wrong)
		slices.Reverse(other.Codes)
		l, e := sheet.Codes(c)
		n, f := sheet.Errors(c)
		k, g := sheet.Codes(other)
		m, h := sheet.Errors(other)
		if !sameLists(l, k) || n != m || e != g || f != h {
			t.Errorf("Codes, Errors of %v: %v, %v; %d, %v; of %v: %v, %v; %d, %v", c, l, e, n, f, other, k, g, m, h)
		}
	})
}

// A call with equal arguments returns equal results, whatever was called before it.
func TestNothingIsStored(t *testing.T) {
	for range 3 {
		for _, x := range []struct {
			c       sheet.Census
			persons sheet.Range
			e       api.Errno
		}{{four(3, 3), to(3, 3), api.OK}, {twins(to(0, 5)), to(2, 5), api.OK}, {four(6, 9), to(0, 0), api.ErrFail}, {sheet.Census{}, to(0, 0), api.OK}, {alike(10), to(1, 10), api.OK}, {four(3, 5), to(3, 4), api.OK}} {
			if p, _, e := sheet.Persons(x.c); p != x.persons || e != x.e {
				t.Errorf("Persons of %v: %v, %v", x.c, p, e)
			}
		}
		for _, x := range []struct {
			c      sheet.Coding
			errors int
			e      api.Errno
		}{{three(1, 1, 1), 2, api.OK}, {three(0, 0, 3), 0, api.ErrFail}, {three(0, 1, 2), 3, api.OK}, {three(3, 3, 3), 2, api.OK}} {
			if n, e := sheet.Errors(x.c); n != x.errors || e != x.e {
				t.Errorf("Errors of %v: %d, %v", x.c, n, e)
			}
		}
	}
}

// wild are numbers of which most are not valid.
func (d *dice) wild() int {
	numbers := []int{math.MinInt, -1, 0, 1, 2, 3, 9, 10, 63, 64, 120, 200, math.MaxInt}
	return numbers[d.upTo(len(numbers)-1)]
}

func (d *dice) wildList(most int) []int {
	l := make([]int, d.upTo(most))
	for i := range l {
		l[i] = d.wild()
	}
	return l
}

// wildCensus spoils a census in some places.
func (d *dice) wildCensus() sheet.Census {
	c := d.throwCensus(10)
	if d.upTo(3) == 0 {
		c.Entries = append(c.Entries, entry(d.wild(), d.upTo(2), d.wild(), d.wild(), d.wild()))
	}
	for range d.upTo(6) - 2 {
		c.Same = append(c.Same, pair(d.wild(), d.wild()))
		c.Apart = append(c.Apart, pair(d.wild(), d.upTo(9)))
	}
	if d.upTo(3) == 0 {
		c.Omitted, c.Number = to(d.wild(), d.wild()), to(d.wild(), d.wild())
	}
	return c
}

// P1: each call with a census returns, whatever its arguments are.
func TestWildCensuses(t *testing.T) {
	d := dice(3)
	for range 3000 {
		c := d.wildCensus()
		persons := make([][]int, d.upTo(5))
		for i := range persons {
			persons[i] = d.wildList(12)
		}
		valid := sheet.CheckCensus(c)
		proved := sheet.ProveAssignment(c, persons)
		_, _, g := sheet.Together(c, d.wild(), d.wild())
		if valid == api.OK {
			continue
		}
		if proved || g != valid {
			t.Fatalf("%v is not valid, and yet proved: %v, or Together: %v", c, proved, g)
		}
		for call, f := range censusCalls(c) {
			if e, zero := f(); e != valid || !zero {
				t.Fatalf("%s of %v: %v, not %v; zero: %v", call, c, e, valid, zero)
			}
		}
	}
}

// P1: each call with a coding returns, whatever its arguments are.
func TestWildCodings(t *testing.T) {
	d := dice(4)
	for range 3000 {
		c := d.throwCoding(10)
		switch d.upTo(4) {
		case 0:
			c.Codes[d.upTo(len(c.Codes)-1)] = d.wildList(11)
		case 1:
			c.Wrong = d.wildList(4)
		case 2:
			c.Codes = c.Codes[:d.upTo(len(c.Codes))]
		}
		valid := sheet.CheckCoding(c)
		proved := sheet.ProveSolution(c, d.wildList(11))
		_, e := sheet.Codes(c)
		_, f := sheet.Errors(c)
		if e != f || valid != api.OK && (proved || e != valid) || valid == api.OK && e != api.OK && e != api.ErrFail {
			t.Fatalf("%v: %v; proved: %v; Codes: %v; Errors: %v", c, valid, proved, e, f)
		}
	}
}
