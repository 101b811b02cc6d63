package border_test

import (
	"math"
	"slices"
	"testing"

	"tithing/api"
	"tithing/border"
)

// roomy returns the list with free room behind it, which nobody may write to either.
func roomy[T any](list []T) []T { return slices.Grow(slices.Clone(list), 8) }

// whole returns the list with all the room behind it.
func whole[T any](list []T) []T { return slices.Clone(list[:cap(list)]) }

// spoil writes to all the memory of the list, up to its capacity.
func spoil[T any](list []T, with T) {
	list = list[:cap(list)]
	for i := range list {
		list[i] = with
	}
}

func roomyMap(m border.Map) border.Map {
	return border.Map{Old: roomy(m.Old), New: m.New, Streets: roomy(m.Streets), Joins: roomy(m.Joins)}
}

func wholeMap(m border.Map) border.Map {
	return border.Map{Old: whole(m.Old), New: m.New, Streets: whole(m.Streets), Joins: whole(m.Joins)}
}

func sameMap(a, b border.Map) bool {
	return slices.Equal(a.Old, b.Old) && a.New == b.New && slices.Equal(a.Streets, b.Streets) && slices.Equal(a.Joins, b.Joins)
}

// R4: arguments are not written to, not even behind their ends.
func TestArgumentsAreKept(t *testing.T) {
	for _, x := range append(fixed(), notConsistent()...) {
		m, borders, people := roomyMap(x), roomy(own(x)), roomy(filled(x, func(int) bool { return true }))
		m2, borders2, people2 := wholeMap(m), whole(borders), whole(people)
		for range 2 {
			for _, do := range callsOf(m) {
				do()
			}
			for _, limits := range ranges(to(0, 40000), to(60, 100), to(5, 4)) {
				bestCall(m, limits)()
				border.ProveBorders(m, borders, limits, 8)
				border.ProveBorders(m, people, limits, 8)
			}
			border.ProveTruth(m, people)
			border.ProveTruth(m, borders)
		}
		if !sameMap(wholeMap(m), m2) || !slices.Equal(whole(borders), borders2) || !slices.Equal(whole(people), people2) {
			t.Errorf("arguments are changed: %v, %v, %v", wholeMap(m), whole(borders), whole(people))
		}
	}
}

// answer has what all calls return.
type answer struct {
	streets, districts, off, apart, borders []int
	people, sizes                           []border.Range
	moved                                   int
	errors                                  []api.Errno
}

func ask(m border.Map, limits border.Range) answer {
	s, d, e := border.Carry(m)
	people, e2 := border.Streets(m)
	sizes, e3 := border.Bounds(m)
	off, e4 := border.Off(m)
	apart, e5 := border.Apart(m)
	borders, moved, e6 := border.Best(m, limits)
	return answer{s, d, off, apart, borders, people, sizes, moved, []api.Errno{e, e2, e3, e4, e5, e6}}
}

// lists returns the lists of numbers of the answer, and of its ranges.
func (a answer) lists() ([][]int, [][]border.Range) {
	return [][]int{a.streets, a.districts, a.off, a.apart, a.borders}, [][]border.Range{a.people, a.sizes}
}

func (a answer) copied() answer {
	a.streets, a.districts, a.off, a.apart, a.borders = slices.Clone(a.streets), slices.Clone(a.districts), slices.Clone(a.off), slices.Clone(a.apart), slices.Clone(a.borders)
	a.people, a.sizes = slices.Clone(a.people), slices.Clone(a.sizes)
	return a
}

func sameAnswer(a, b answer) bool {
	numbers, ranges := a.lists()
	numbers2, ranges2 := b.lists()
	return slices.EqualFunc(numbers, numbers2, slices.Equal) && slices.EqualFunc(ranges, ranges2, slices.Equal) && a.moved == b.moved && slices.Equal(a.errors, b.errors)
}

// R4: results are in memory of their own.
func TestMemory(t *testing.T) {
	for _, x := range fixed() {
		m := roomyMap(x)
		before := wholeMap(m)
		limits := to(0, 40000)
		first := ask(m, limits)
		want := first.copied()
		for range 3 {
			again := ask(m, limits)
			if !sameAnswer(again, want) {
				t.Fatalf("%v: %v, again %v", x, want, again)
			}
			numbers, of := again.lists()
			for i, l := range numbers {
				// What is written to one result is not seen in the others.
				spoil(l, -7-i)
			}
			for i, l := range of {
				spoil(l, to(-7-i, -7))
			}
			for i, l := range numbers {
				if slices.ContainsFunc(l, func(n int) bool { return n != -7-i }) {
					t.Fatalf("results of %v share memory: %v", x, again)
				}
			}
			for i, l := range of {
				if slices.ContainsFunc(l, func(r border.Range) bool { return r != to(-7-i, -7) }) {
					t.Fatalf("results of %v share memory: %v", x, again)
				}
			}
			if !sameMap(wholeMap(m), before) || !sameAnswer(first, want) {
				t.Fatalf("arguments or results are changed: %v, %v", m, first)
			}
		}
	}
}

// R3: nil and a list without elements are the same.
func TestEmptyLists(t *testing.T) {
	for _, x := range []border.Map{town(), row(0), row(1, 0), townOf(100, 60, 4)} {
		x.Joins = nil
		none := x
		none.Joins = []border.Join{}
		for _, limits := range ranges(to(0, 40000), to(0, 0)) {
			if a, b := ask(x, limits), ask(none, limits); !sameAnswer(a, b) {
				t.Errorf("%v: %v, but %v with no joins", x, a, b)
			}
		}
		if border.CheckMap(x) != api.OK || border.CheckMap(none) != api.OK {
			t.Errorf("CheckMap of %v", x)
		}
	}
	for _, m := range []border.Map{{}, {Old: []int{}, Streets: []border.Street{}, Joins: []border.Join{}}, {New: 1, Old: []int{}}, {New: 1, Streets: []border.Street{}}} {
		testNoMap(t, "a map without anything", m, api.ErrArg)
	}
}

// wild makes a number of any size.
func (d *dice) wild() int {
	return d.of(math.MinInt, math.MinInt+1, -40001, -2, -1, 0, 1, 2, 3, 4, 5, 8, 9, 999, 1000, 1001, 9999, 10000, 10001, 40000, 40001, 1<<31, 1<<32, 1<<62, math.MaxInt-1, math.MaxInt)
}

// spoilt spoils the map in one place.
func (d *dice) spoilt(m border.Map) border.Map {
	return changed(m, func(m *border.Map) {
		s := &m.Streets[d.upTo(len(m.Streets)-1)]
		switch d.upTo(12) {
		case 0:
			m.Old[d.upTo(len(m.Old)-1)] = d.wild()
		case 1:
			m.New = d.wild()
		case 2:
			s.Old = d.wild()
		case 3:
			s.New = d.wild()
		case 4:
			s.Weight = d.wild()
		case 5:
			s.People = to(d.wild(), d.wild())
		case 6:
			m.Joins = append(m.Joins, join(d.wild(), d.wild()))
		case 7:
			m.Joins = append(m.Joins, join(d.upTo(8), d.upTo(8)))
		case 8:
			m.Joins = slices.Repeat(append(m.Joins, join(0, 1)), d.from(1, 20))
		case 9:
			m.Streets = slices.Repeat(m.Streets, d.from(1, 9))
		case 10:
			m.Old = slices.Repeat(m.Old, d.from(1, 5))
		case 11:
			m.Streets = m.Streets[:d.upTo(len(m.Streets))]
		case 12:
			m.Old = m.Old[:d.upTo(len(m.Old))]
		}
	})
}

// wildMap makes a map that is often spoilt.
func (d *dice) wildMap() border.Map {
	m := d.throw(d.from(1, 5), d.of(3, 100, 1250), d.of(0, 3, 100))
	for range d.of(0, 1, 1, 2) {
		if len(m.Streets) > 0 && len(m.Old) > 0 {
			m = d.spoilt(m)
		}
	}
	if len(m.Old) > 0 && d.upTo(3) == 0 {
		m.Old[0] += d.from(-9, 9)
	}
	return m
}

func isWrongRange(r border.Range, most int) bool { return r.Lo < 0 || r.Lo > r.Hi || r.Hi > most }

func isWrongStreet(m border.Map, s border.Street) bool {
	return s.Old < 0 || s.Old >= len(m.Old) || s.New < 0 || s.New >= m.New || s.Weight < 0 || s.Weight > 1000 || isWrongRange(s.People, 10000)
}

// errorOf tells what the chapter's row "all" says.
func errorOf(m border.Map) api.Errno {
	if len(m.Old) > 4 || len(m.Streets) > 8 || len(m.Joins) > 20 {
		return api.ErrLimit
	}
	if len(m.Old) < 1 || m.New < 1 || m.New > 4 || len(m.Streets) < 1 {
		return api.ErrArg
	}
	weighed := map[int]bool{}
	for _, s := range m.Streets {
		if isWrongStreet(m, s) {
			return api.ErrArg
		}
		if s.Weight > 0 {
			weighed[s.Old] = true
		}
	}
	for _, n := range m.Old {
		if n < 0 || n > 10000 || len(weighed) < len(m.Old) {
			return api.ErrArg
		}
	}
	for _, j := range m.Joins {
		if min(j.A, j.B) < 0 || max(j.A, j.B) >= len(m.Streets) || j.A == j.B {
			return api.ErrArg
		}
	}
	return api.OK
}

// wildList makes a list longer or shorter, or puts a wild number into it, or leaves it as it is.
func (d *dice) wildList(l []int) []int {
	l = slices.Clone(l)
	switch d.upTo(9) {
	case 0:
		return nil
	case 1:
		return slices.Concat(l, l)
	case 2:
		return l[:d.upTo(len(l))]
	case 3:
		return append(l, d.wild())
	case 4:
		if len(l) > 0 {
			l[d.upTo(len(l)-1)] = d.wild()
		}
	case 5:
		if len(l) > 0 {
			l[d.upTo(len(l)-1)] += d.of(-1, 1)
		}
	}
	return l
}

func (d *dice) wildLimits() border.Range {
	switch d.upTo(5) {
	case 0:
		return to(d.wild(), d.wild())
	case 1:
		return to(0, d.upTo(5000))
	case 2:
		return to(1, 40000)
	}
	return to(0, 40000)
}

// P1, R1, R2: each call returns, whatever its arguments are, with the first error, and with an error all else is zero.
func TestWildMaps(t *testing.T) {
	d := dice(9)
	count := map[api.Errno]int{}
	truths, proved := 0, 0
	for range 15000 {
		m := d.wildMap()
		due := errorOf(m)
		asked := due
		if due == api.OK && !isConsistent(m) {
			asked = api.ErrFail
		}
		for call, do := range callsOf(m) {
			if asksTruth(call) {
				testError(t, call, do, asked)
			} else {
				testError(t, call, do, due)
			}
		}
		limits := d.wildLimits()
		e := testWildBest(t, m, limits, asked)
		count[e]++
		people, borders := d.wildArguments(m, asked == api.OK)
		is := asked == api.OK && isTruth(m, people)
		if border.ProveTruth(m, people) != is {
			t.Errorf("ProveTruth of %v, %v: %v", m, people, !is)
		}
		right := asked == api.OK && !isWrongRange(limits, 40000) && areBorders(m, borders) && isRight(within(m, borders), limits)
		if border.ProveBorders(m, borders, limits, 8) != right {
			t.Errorf("ProveBorders of %v, %v within %v: %v", m, borders, limits, !right)
		}
		if is {
			truths++
		}
		if right {
			proved++
		}
		if t.Failed() {
			t.Fatalf("the map %v", m)
		}
	}
	for _, e := range []api.Errno{api.OK, api.ErrArg, api.ErrRange, api.ErrLimit, api.ErrNone, api.ErrFail} {
		if count[e] < 300 || truths < 1000 || proved < 200 {
			t.Errorf("only so many errors: %v, and so many truths and borders: %d, %d", count, truths, proved)
		}
	}
}

// wildArguments makes numbers of people and borders that may be wild, from some that are right where there are any.
func (d *dice) wildArguments(m border.Map, consistent bool) (people, borders []int) {
	if !consistent {
		return d.wildList(make([]int, len(m.Streets))), d.wildList(own(m))
	}
	borders, _, e := border.Best(m, to(0, 40000))
	if e != api.OK {
		borders = own(m)
	}
	return d.wildList(d.someTruth(m)), d.wildList(borders)
}

func areBorders(m border.Map, l []int) bool {
	return len(l) == len(m.Streets) && !slices.ContainsFunc(l, func(n int) bool { return n < 0 || n >= m.New })
}

// testWildBest tests the error of Best, if the calls that ask for truths have this one, and returns it.
func testWildBest(t *testing.T, m border.Map, limits border.Range, asked api.Errno) api.Errno {
	t.Helper()
	due := asked
	if isWrongRange(limits, 40000) && (asked == api.OK || asked == api.ErrFail) {
		due = api.ErrRange
	}
	if due == api.OK {
		if want, _ := bestOf(m, limits); want == nil {
			due = api.ErrNone
		}
	}
	testError(t, "Best", bestCall(m, limits), due)
	return due
}

// A call with equal arguments returns equal results, whatever was called before it.
func TestNothingIsStored(t *testing.T) {
	for _, m := range fixed() {
		for _, limits := range ranges(to(0, 40000), to(60, 100)) {
			a := ask(copyOf(m), limits)
			for _, other := range append(fixed(), notConsistent()...) {
				ask(other, to(0, 40000))
			}
			if b := ask(copyOf(m), limits); !sameAnswer(a, b) {
				t.Errorf("%v: %v; again: %v", m, a, b)
			}
		}
	}
}
