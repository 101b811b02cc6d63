package sheet_test

import (
	"slices"
	"testing"

	"tithing/sheet"
)

func to(low, high int) sheet.Range { return sheet.Range{Lo: low, Hi: high} }

func entry(schedule, sex, key, low, high int) sheet.Entry {
	return sheet.Entry{Schedule: schedule, Sex: sex, Key: key, Ages: to(low, high)}
}

func pair(first, second int) sheet.Pair { return sheet.Pair{First: first, Second: second} }

func pairs(l ...sheet.Pair) []sheet.Pair { return l }

func list(l ...int) []int { return l }

func lists(l ...[]int) [][]int { return l }

func coding(wrong []int, codes ...[]int) sheet.Coding {
	return sheet.Coding{Codes: codes, Wrong: wrong}
}

// four is the census of the chapter's examples: 1 can be 0 or 2, which differ; 3 is somebody else.
func four(low, high int) sheet.Census {
	return sheet.Census{
		Entries: []sheet.Entry{entry(0, 0, 5, 30, 34), entry(1, 0, 5, 33, 36), entry(2, 0, 5, 35, 40), entry(1, 1, 7, 20, 20)},
		Omitted: to(0, 1),
		Number:  to(low, high),
	}
}

// three is the coding of the chapter's examples.
func three(wrong ...int) sheet.Coding {
	return coding(wrong, list(1, 2, 3), list(1, 5, 3), list(4, 5, 3))
}

// alike has that many entries of as many schedules that can all be one person, in whatever number.
func alike(entries int) sheet.Census {
	c := sheet.Census{Number: to(0, 200)}
	for n := range entries {
		c.Entries = append(c.Entries, entry(n, 1, 99, 0, 120))
	}
	return c
}

// twins has two entries on each of five schedules, each of which can be one of two persons.
func twins(number sheet.Range) sheet.Census {
	c := sheet.Census{Number: number}
	for n := range 10 {
		c.Entries = append(c.Entries, entry(n/2, 0, 0, 7, 7))
	}
	return c
}

func allCodes() []int { return list(0, 1, 2, 3, 4, 5, 6, 7, 8, 9) }

func sameLists(a, b [][]int) bool {
	return slices.EqualFunc(a, b, func(x, y []int) bool { return slices.Equal(x, y) })
}

func copyLists(l [][]int) [][]int {
	var other [][]int
	for _, x := range l {
		other = append(other, slices.Clone(x))
	}
	return other
}

func copyOf(c sheet.Census) sheet.Census {
	c.Entries, c.Same, c.Apart = slices.Clone(c.Entries), slices.Clone(c.Same), slices.Clone(c.Apart)
	return c
}

func sameCensus(a, b sheet.Census) bool {
	return slices.Equal(a.Entries, b.Entries) && slices.Equal(a.Same, b.Same) && slices.Equal(a.Apart, b.Apart) && a.Omitted == b.Omitted && a.Number == b.Number
}

// withSame returns the census with one more pair in Same.
func withSame(c sheet.Census, p sheet.Pair) sheet.Census {
	c = copyOf(c)
	c.Same = append(c.Same, p)
	return c
}

// withApart returns the census with one more pair in Apart.
func withApart(c sheet.Census, p sheet.Pair) sheet.Census {
	c = copyOf(c)
	c.Apart = append(c.Apart, p)
	return c
}

// without returns the census without the pairs of a set, bit by bit.
func without(c sheet.Census, dropped int) sheet.Census {
	other := copyOf(c)
	other.Same, other.Apart = nil, nil
	for i, p := range c.Same {
		if dropped&(1<<i) == 0 {
			other.Same = append(other.Same, p)
		}
	}
	for i, p := range c.Apart {
		if dropped&(1<<(i+len(c.Same))) == 0 {
			other.Apart = append(other.Apart, p)
		}
	}
	return other
}

// dice are thrown in the same way in each run.
type dice uint64

func (d *dice) upTo(most int) int {
	*d = *d*6364136223846793005 + 1442695040888963407
	return int(uint64(*d)>>33) % (most + 1)
}

func (d *dice) within(low, high int) sheet.Range {
	a, b := low+d.upTo(high-low), low+d.upTo(high-low)
	return to(min(a, b), max(a, b))
}

func (d *dice) throwPair(entries int) sheet.Pair {
	a := d.upTo(entries - 1)
	return pair(a, (a+1+d.upTo(entries-2))%entries)
}

// throwCensus makes a census of at most that many entries, many of which can be the same person.
func (d *dice) throwCensus(entries int) sheet.Census {
	c := sheet.Census{}
	for range d.upTo(entries) {
		one := entry(d.upTo(4), 0, 3, 0, 0)
		one.Ages = d.within(20, 29)
		if d.upTo(2) > 0 {
			one.Ages = to(one.Ages.Lo, min(one.Ages.Hi+4, 30))
		}
		if d.upTo(7) == 0 {
			one.Sex = 1
		}
		if d.upTo(7) == 0 {
			one.Key = 4
		}
		c.Entries = append(c.Entries, one)
	}
	if n := len(c.Entries); n > 1 {
		for range d.upTo(2) {
			c.Same = append(c.Same, d.throwPair(n))
		}
		for range d.upTo(3) {
			c.Apart = append(c.Apart, d.throwPair(n))
		}
	}
	c.Omitted = d.within(0, 3)
	c.Number = d.within(0, len(c.Entries)+3)
	if d.upTo(2) == 0 {
		c.Number = to(0, 200)
	}
	return c
}

// throwCoding makes a coding of at most that many entries, with few different codes.
func (d *dice) throwCoding(entries int) sheet.Coding {
	c := sheet.Coding{}
	n := 1 + d.upTo(entries-1)
	for range 1 + d.upTo(2) {
		codes := make([]int, n)
		for i := range codes {
			codes[i] = 4 * d.upTo(2)
			if d.upTo(4) == 0 {
				codes[i] = d.upTo(9)
			}
		}
		c.Codes, c.Wrong = append(c.Codes, codes), append(c.Wrong, d.upTo(n))
	}
	return c
}

// canBelong reports whether two entries can belong to one person, as the chapter defines it: some age is in both Ages.
func canBelong(a, b sheet.Entry) bool {
	for age := range 121 {
		if age >= a.Ages.Lo && age <= a.Ages.Hi && age >= b.Ages.Lo && age <= b.Ages.Hi {
			return a.Schedule != b.Schedule && a.Sex == b.Sex && a.Key == b.Key
		}
	}
	return false
}

// fits reports whether that many persons with entries, and that many without, are in Number.
func fits(c sheet.Census, persons, omitted int) bool {
	sum := persons + omitted
	return omitted >= c.Omitted.Lo && omitted <= c.Omitted.Hi && sum >= c.Number.Lo && sum <= c.Number.Hi
}

// isValid reports whether a division of the entries is a valid assignment, as the chapter defines it; of has the person of each entry.
func isValid(c sheet.Census, of []int, persons int) bool {
	for a := range of {
		for b := range a {
			if of[a] == of[b] && !canBelong(c.Entries[a], c.Entries[b]) {
				return false
			}
		}
	}
	for _, p := range c.Same {
		if of[p.First] != of[p.Second] {
			return false
		}
	}
	for _, p := range c.Apart {
		if of[p.First] == of[p.Second] {
			return false
		}
	}
	for omitted := range 101 {
		if fits(c, persons, omitted) {
			return true
		}
	}
	return false
}

// divisions calls each with every division of the entries into persons: with the person of each entry, and the number of persons.
func divisions(entries int, each func(of []int, persons int)) {
	of := make([]int, entries)
	var deal func(n, persons int)
	deal = func(n, persons int) {
		if n == entries {
			each(of, persons)
			return
		}
		for person := range persons + 1 {
			of[n] = person
			deal(n+1, max(persons, person+1))
		}
	}
	deal(0, 0)
}

// listsOf returns for each person its entries.
func listsOf(of []int, persons int) [][]int {
	l := make([][]int, persons)
	for n, person := range of {
		l[person] = append(l[person], n)
	}
	return l
}

// known is what all valid assignments tell of a census.
type known struct {
	assignments      [][]int // the person of each entry
	persons, omitted sheet.Range
	counts           map[int]bool
	together, apart  map[sheet.Pair]bool // what some assignment says of two entries
	alone            map[int]bool        // whether some assignment has the entry alone
}

// know tries all divisions of the entries.
func know(c sheet.Census) known {
	k := known{persons: to(1000, -1), omitted: to(1000, -1), counts: map[int]bool{}, together: map[sheet.Pair]bool{}, apart: map[sheet.Pair]bool{}, alone: map[int]bool{}}
	divisions(len(c.Entries), func(of []int, persons int) {
		if !isValid(c, of, persons) {
			return
		}
		k.assignments = append(k.assignments, slices.Clone(of))
		k.counts[persons] = true
		k.persons = to(min(k.persons.Lo, persons), max(k.persons.Hi, persons))
		for omitted := range 101 {
			if fits(c, persons, omitted) {
				k.omitted = to(min(k.omitted.Lo, omitted), max(k.omitted.Hi, omitted))
			}
		}
		for a := range of {
			for b := range of {
				k.together[pair(a, b)] = k.together[pair(a, b)] || of[a] == of[b]
				k.apart[pair(a, b)] = k.apart[pair(a, b)] || of[a] != of[b]
			}
		}
		for _, person := range listsOf(of, persons) {
			if len(person) == 1 {
				k.alone[person[0]] = true
			}
		}
	})
	if len(k.assignments) == 0 {
		k.persons, k.omitted = to(0, 0), to(0, 0)
	}
	return k
}

// leastDropped finds the minimum set of pairs by trying all sets; it reports whether any may be dropped.
func leastDropped(c sheet.Census) ([]int, bool) {
	var best []int
	found := false
	for s := range 1 << (len(c.Same) + len(c.Apart)) {
		var dropped []int
		for i := range len(c.Same) + len(c.Apart) {
			if s&(1<<i) != 0 {
				dropped = append(dropped, i)
			}
		}
		better := !found || len(dropped) < len(best) || len(dropped) == len(best) && slices.Compare(dropped, best) < 0
		if better && len(know(without(c, s)).assignments) > 0 {
			best, found = dropped, true
		}
	}
	return best, found
}

// errorsOf counts the errors of each coder in a list of codes.
func errorsOf(c sheet.Coding, codes []int) (wrong []int, sum int) {
	for _, l := range c.Codes {
		n := 0
		for i := range l {
			if l[i] != codes[i] {
				n++
			}
		}
		wrong, sum = append(wrong, n), sum+n
	}
	return wrong, sum
}

// isSolution reports whether the codes are a solution, as the chapter defines it.
func isSolution(c sheet.Coding, codes []int) bool {
	wrong, _ := errorsOf(c, codes)
	for coder, n := range wrong {
		if n > c.Wrong[coder] {
			return false
		}
	}
	return true
}

// everyCodes calls each with every list of that many codes.
func everyCodes(entries int, each func(codes []int)) {
	codes := make([]int, entries)
	var fill func(n int)
	fill = func(n int) {
		if n == entries {
			each(codes)
			return
		}
		for code := range 10 {
			codes[n] = code
			fill(n + 1)
		}
	}
	fill(0)
}

// solutionsOf tries all codes.
func solutionsOf(c sheet.Coding) [][]int {
	var solutions [][]int
	everyCodes(len(c.Codes[0]), func(codes []int) {
		if isSolution(c, codes) {
			solutions = append(solutions, slices.Clone(codes))
		}
	})
	return solutions
}

// forCensuses calls check with the censuses of this file, and with many others.
func forCensuses(t *testing.T, entries int, check func(t *testing.T, d *dice, c sheet.Census)) {
	t.Helper()
	d := dice(1)
	for _, c := range []sheet.Census{four(3, 3), four(3, 5), four(5, 5), four(6, 9), {}, alike(4)} {
		check(t, &d, c)
	}
	for range 400 {
		check(t, &d, d.throwCensus(entries))
		if t.Failed() {
			return
		}
	}
}

// forCodings calls check with the codings of the examples, and with many others.
func forCodings(t *testing.T, check func(t *testing.T, d *dice, c sheet.Coding)) {
	t.Helper()
	d := dice(2)
	for _, c := range []sheet.Coding{three(1, 1, 1), three(1, 1, 2), three(0, 0, 3), three(3, 3, 3)} {
		check(t, &d, c)
	}
	for range 150 {
		check(t, &d, d.throwCoding(3))
		if t.Failed() {
			return
		}
	}
}
