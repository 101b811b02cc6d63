package sheet

import (
	"iter"
	"slices"

	"tithing/api"
)

// never is the smallest number of persons of entries that have no assignment: more than any, and yet a sum with it is a number.
const never = 1 << 30

// roll is a census that was read, with what has been found out about it. Its arrays look at persons alone, not at how many there are in all.
type roll struct {
	Census
	fits   [api.MaxSheetEntries]group // for each entry those that may be the same person, with itself
	tied   [api.MaxSheetEntries]group // for each entry those that Same pairs with it
	person [groups]bool               // whether the group can be all entries of one person
	least  [groups]int                // the smallest number of persons that have just the entries of the group
	most   [groups]int                // the greatest one
}

// read reads a census; its error is one of the census, or that it is not consistent.
func read(c Census) (*roll, api.Errno) {
	if e := CheckCensus(c); e != api.OK {
		return nil, e
	}
	r := newRoll(c)
	if r.counts().empty() {
		return nil, api.ErrFail
	}
	return r, api.OK
}

func newRoll(c Census) *roll {
	r := &roll{Census: c}
	r.compare()
	for g := group(1); g <= r.everybody(); g++ {
		r.person[g] = r.canBePerson(g)
	}
	for g := group(1); g <= r.everybody(); g++ {
		r.least[g], r.most[g] = never, -never
		for person := range r.persons(g) {
			r.least[g] = minimum(r.least[g], r.least[g&^person]+1)
			r.most[g] = maximum(r.most[g], r.most[g&^person]+1)
		}
	}
	return r
}

// compare finds out which two entries may be the same person, and which are said to be.
func (r *roll) compare() {
	for a, one := range r.Entries {
		r.fits[a] = groupOf(a)
		for b, other := range r.Entries {
			if one.canBelongTo(other) {
				r.fits[a] |= groupOf(b)
			}
		}
	}
	for _, p := range r.Apart {
		r.fits[p.First] &^= groupOf(p.Second)
		r.fits[p.Second] &^= groupOf(p.First)
	}
	for _, p := range r.Same {
		r.tied[p.First] |= groupOf(p.Second)
		r.tied[p.Second] |= groupOf(p.First)
	}
}

func (r *roll) everybody() group { return 1<<len(r.Entries) - 1 }

func (r *roll) canBePerson(g group) bool {
	for n := range g.all() {
		if g&^r.fits[n] != 0 || r.tied[n]&^g != 0 {
			return false
		}
	}
	return true
}

// persons yields the groups of one person that have the first entry of the group, and none beside the group's.
func (r *roll) persons(g group) iter.Seq[group] {
	return func(yield func(group) bool) {
		first := groupOf(g.first())
		others := g & r.fits[g.first()] &^ first
		for part := range others.parts() {
			if r.person[first|part] && !yield(first|part) {
				return
			}
		}
	}
}

// allowed returns the numbers of persons with entries that lead to the Number of all.
func (r *roll) allowed() Range {
	return Range{Lo: r.Number.Lo - r.Omitted.Hi, Hi: r.Number.Hi - r.Omitted.Lo}
}

// counts returns the numbers of persons in valid assignments; it is empty if there is none. All between the ends are such numbers, as one person after the other can be divided until only entries that Same connects are left together.
func (r *roll) counts() Range {
	g := r.everybody()
	return Range{Lo: r.least[g], Hi: r.most[g]}.both(r.allowed())
}

// omitted returns the numbers of Omitted in valid assignments, of which there is one: fewer with more persons that have entries.
func (r *roll) omitted() Range {
	counts := r.counts()
	return r.Omitted.both(Range{Lo: r.Number.Lo - counts.Hi, Hi: r.Number.Hi - counts.Lo})
}

// divide divides all entries into that many persons, which is one of the counts.
func (r *roll) divide(many int) [][]int {
	var persons [][]int
	rest := r.everybody()
	for rest != 0 {
		many--
		person := r.nextPerson(rest, many)
		persons = append(persons, person.list())
		rest &^= person
	}
	return persons
}

// nextPerson returns entries of one person such that the others of the rest can be divided into that many persons; as many is one of the counts, there is one.
func (r *roll) nextPerson(rest group, many int) group {
	for person := range r.persons(rest) {
		others := rest &^ person
		if r.least[others] <= many && many <= r.most[others] {
			return person
		}
	}
	return rest
}

// consistent reports whether the census, which is valid but for the length of Same and Apart, has a valid assignment.
func (c Census) consistent() bool { return !newRoll(c).counts().empty() }

func (c Census) withSame(more ...Pair) Census {
	c.Same = slices.Concat(c.Same, more)
	return c
}

func (c Census) withApart(more ...Pair) Census {
	c.Apart = slices.Concat(c.Apart, more)
	return c
}

func (c Census) unpaired() Census {
	c.Same, c.Apart = nil, nil
	return c
}

// without returns the census without the pairs of these numbers.
func (c Census) without(dropped []int) Census {
	var same, apart []Pair
	for i, p := range slices.Concat(c.Same, c.Apart) {
		switch {
		case slices.Contains(dropped, i):
		case i < len(c.Same):
			same = append(same, p)
		default:
			apart = append(apart, p)
		}
	}
	c.Same, c.Apart = same, apart
	return c
}

// pairsOf returns the pairs of the entry and each other one.
func (c Census) pairsOf(n int) []Pair {
	var pairs []Pair
	for other := range c.Entries {
		if other != n {
			pairs = append(pairs, Pair{n, other})
		}
	}
	return pairs
}
