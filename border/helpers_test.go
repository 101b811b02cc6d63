package border_test

import (
	"slices"
	"testing"

	"tithing/api"
	"tithing/border"
	"tithing/round"
)

func to(low, high int) border.Range { return border.Range{Lo: low, Hi: high} }

func ranges(l ...border.Range) []border.Range { return l }

func street(old, new, weight, low, high int) border.Street {
	return border.Street{Old: old, New: new, Weight: weight, People: to(low, high)}
}

func streets(l ...border.Street) []border.Street { return l }

func join(a, b int) border.Join { return border.Join{A: a, B: b} }

func joins(l ...border.Join) []border.Join { return l }

func list(l ...int) []int { return l }

// town is the map of the chapter's examples.
func town() border.Map {
	return border.Map{
		Old: list(100, 60), New: 2,
		Streets: streets(street(0, 0, 3, 40, 70), street(0, 1, 2, 30, 50), street(1, 1, 5, 20, 60), street(1, 0, 1, 0, 30)),
		Joins:   joins(join(0, 1), join(1, 2), join(2, 3)),
	}
}

// townOf is the town with other counts and another number of new districts.
func townOf(first, second, districts int) border.Map {
	m := town()
	m.Old, m.New = list(first, second), districts
	for i, s := range m.Streets {
		m.Streets[i].New = min(s.New, districts-1)
	}
	return m
}

// row has streets of 10 people in a row, in these new districts.
func row(districts ...int) border.Map {
	m := border.Map{Old: list(10 * len(districts)), New: slices.Max(districts) + 1}
	for i, d := range districts {
		m.Streets = append(m.Streets, street(0, d, 1, 10, 10))
		if i > 0 {
			m.Joins = append(m.Joins, join(i, i-1))
		}
	}
	return m
}

// ring is a row whose ends meet.
func ring(districts ...int) border.Map {
	m := row(districts...)
	m.Joins = append(m.Joins, join(0, len(districts)-1))
	return m
}

// greatest has as many of everything as a map can have, and the greatest numbers.
func greatest() border.Map {
	m := border.Map{Old: slices.Repeat(list(10000), 4), New: 4}
	for i := range 8 {
		m.Streets = append(m.Streets, street(i%4, i/2, 1000, 0, 10000))
	}
	for i := range 20 {
		m.Joins = append(m.Joins, join(i%8, (i+1+i/8)%8))
	}
	return m
}

func copyOf(m border.Map) border.Map {
	return border.Map{Old: slices.Clone(m.Old), New: m.New, Streets: slices.Clone(m.Streets), Joins: slices.Clone(m.Joins)}
}

// changed returns a copy of the map with a change.
func changed(m border.Map, change func(m *border.Map)) border.Map {
	m = copyOf(m)
	change(&m)
	return m
}

// within returns the map in other borders.
func within(m border.Map, borders []int) border.Map {
	return changed(m, func(m *border.Map) {
		for i, d := range borders {
			m.Streets[i].New = d
		}
	})
}

// own returns the borders of the map itself.
func own(m border.Map) []int {
	var l []int
	for _, s := range m.Streets {
		l = append(l, s.New)
	}
	return l
}

func sumOf(l []int) int {
	sum := 0
	for _, n := range l {
		sum += n
	}
	return sum
}

func inRange(r border.Range, n int) bool { return r.Lo <= n && n <= r.Hi }

// addUp returns for each old district the sum of the numbers of its streets.
func addUp(m border.Map, people []int) []int {
	sums := make([]int, len(m.Old))
	for i, s := range m.Streets {
		sums[s.Old] += people[i]
	}
	return sums
}

// isTruth reports whether the numbers are a truth of a valid map.
func isTruth(m border.Map, people []int) bool {
	if len(people) != len(m.Streets) {
		return false
	}
	for i, s := range m.Streets {
		if !inRange(s.People, people[i]) {
			return false
		}
	}
	return slices.Equal(addUp(m, people), m.Old)
}

// sizesOf returns the sizes of all new districts.
func sizesOf(m border.Map, people []int) []int {
	sizes := make([]int, m.New)
	for i, s := range m.Streets {
		sizes[s.New] += people[i]
	}
	return sizes
}

// forLists calls do with all lists that take a number out of each range.
func forLists(l []border.Range, do func(numbers []int)) {
	numbers := make([]int, len(l))
	var fill func(i int)
	fill = func(i int) {
		if i == len(l) {
			do(numbers)
			return
		}
		for n := l[i].Lo; n <= l[i].Hi; n++ {
			numbers[i] = n
			fill(i + 1)
		}
	}
	fill(0)
}

// truthsOf finds all truths of a small map: all numbers are tried.
func truthsOf(m border.Map) [][]int {
	var l []border.Range
	for _, s := range m.Streets {
		l = append(l, s.People)
	}
	var truths [][]int
	forLists(l, func(people []int) {
		if isTruth(m, people) {
			truths = append(truths, slices.Clone(people))
		}
	})
	return truths
}

// filled gives each street its smallest number, and what is left to the streets that are preferred, then to the others. It is a truth, if there is one, with the most people in these streets.
func filled(m border.Map, isPreferred func(i int) bool) []int {
	people := make([]int, len(m.Streets))
	left := slices.Clone(m.Old)
	give := func(i, n int) {
		people[i] += n
		left[m.Streets[i].Old] -= n
	}
	for i, s := range m.Streets {
		give(i, s.People.Lo)
	}
	for _, turn := range []bool{true, false} {
		for i, s := range m.Streets {
			if isPreferred(i) == turn {
				give(i, max(0, min(left[s.Old], s.People.Hi-people[i])))
			}
		}
	}
	return people
}

// extremes returns truths in which a new district is as small, and as large, as it can be.
func extremes(m border.Map, district int) (small, large []int) {
	lies := func(i int) bool { return m.Streets[i].New == district }
	return filled(m, func(i int) bool { return !lies(i) }), filled(m, lies)
}

// streetExtremes returns truths in which a street has as few, and as many, people as it can have.
func streetExtremes(m border.Map, i int) (few, many []int) {
	return filled(m, func(j int) bool { return j != i }), filled(m, func(j int) bool { return j == i })
}

func isConsistent(m border.Map) bool {
	return isTruth(m, filled(m, func(int) bool { return true }))
}

// boundsOf finds the bounds of all new districts of a consistent map.
func boundsOf(m border.Map) []border.Range {
	var l []border.Range
	for d := range m.New {
		small, large := extremes(m, d)
		l = append(l, to(sizesOf(m, small)[d], sizesOf(m, large)[d]))
	}
	return l
}

// carriedOf divides the counts of all old districts.
func carriedOf(m border.Map) []int {
	carried := make([]int, len(m.Streets))
	for old, count := range m.Old {
		var weights []int
		for _, s := range m.Streets {
			if s.Old == old {
				weights = append(weights, s.Weight)
			}
		}
		parts, _ := round.Divide(weights, count)
		for i, s := range m.Streets {
			if s.Old == old {
				carried[i] = parts[0]
				parts = parts[1:]
			}
		}
	}
	return carried
}

// isConnected reports whether the streets of the district can be reached from each other: ways over more and more of its streets are tried.
func isConnected(m border.Map, district int) bool {
	var lie []int
	for i, s := range m.Streets {
		if s.New == district {
			lie = append(lie, i)
		}
	}
	reach := map[[2]int]bool{}
	for _, j := range m.Joins {
		reach[[2]int{j.A, j.B}], reach[[2]int{j.B, j.A}] = true, true
	}
	for _, over := range lie {
		for _, a := range lie {
			for _, b := range lie {
				if reach[[2]int{a, over}] && reach[[2]int{over, b}] {
					reach[[2]int{a, b}] = true
				}
			}
		}
	}
	for _, a := range lie {
		for _, b := range lie {
			if a != b && !reach[[2]int{a, b}] {
				return false
			}
		}
	}
	return len(lie) > 0
}

func apartOf(m border.Map) []int {
	var l []int
	for d := range m.New {
		if !isConnected(m, d) {
			l = append(l, d)
		}
	}
	return l
}

// isRight reports whether the borders of a consistent map itself are right.
func isRight(m border.Map, limits border.Range) bool {
	for d, size := range boundsOf(m) {
		if !inRange(limits, size.Lo) || !inRange(limits, size.Hi) || !isConnected(m, d) {
			return false
		}
	}
	return true
}

func movedBy(m border.Map, borders []int) int {
	moved := 0
	for i, d := range borders {
		if m.Streets[i].New != d {
			moved++
		}
	}
	return moved
}

// forBorders calls do with all borders, smaller lists first.
func forBorders(m border.Map, do func(borders []int)) {
	forLists(slices.Repeat(ranges(to(0, m.New-1)), len(m.Streets)), do)
}

// bestOf finds the best borders of a consistent map: all borders are tried. It returns none if none are right.
func bestOf(m border.Map, limits border.Range) (best []int, moved int) {
	forBorders(m, func(borders []int) {
		if n := movedBy(m, borders); (best == nil || n < moved) && isRight(within(m, borders), limits) {
			best, moved = slices.Clone(borders), n
		}
	})
	return best, moved
}

// dice are thrown in the same way in each run.
type dice uint64

func (d *dice) upTo(most int) int {
	*d = *d*6364136223846793005 + 1442695040888963407
	return int(uint64(*d)>>33) % (most + 1)
}

func (d *dice) from(low, high int) int { return low + d.upTo(high-low) }

// of returns one of the list.
func (d *dice) of(l ...int) int { return l[d.upTo(len(l)-1)] }

// order returns the numbers below most in another order.
func (d *dice) order(most int) []int {
	var l []int
	for n := range most {
		l = slices.Insert(l, d.upTo(n), n)
	}
	return l
}

// around makes a range that has the number, with at most so many others on each side.
func (d *dice) around(n, wide int) border.Range {
	return to(max(0, n-d.upTo(wide)), min(10000, n+d.upTo(wide)))
}

// joins makes joins of so many streets: of some that follow each other, and of others.
func (d *dice) joins(streets int) []border.Join {
	var l []border.Join
	if streets == 1 {
		return nil
	}
	sparse := d.of(0, 1, 5, 9)
	for i := 1; i < streets; i++ {
		if d.upTo(sparse) > 0 {
			l = append(l, join(i-1, i))
		}
	}
	for range d.upTo(d.of(0, 2, 5, 13)) {
		a := d.upTo(streets - 1)
		b := (a + d.from(1, streets-1)) % streets
		l = append(l, join(a, b))
	}
	return l
}

// throw makes a consistent map of so many streets, with up to so many people in each of them; its ranges are up to twice as wide as told.
func (d *dice) throw(many, most, wide int) border.Map {
	m := border.Map{Old: make([]int, d.from(1, min(4, many))), New: d.from(1, 4), Joins: d.joins(many)}
	heaviest := d.of(1, 3, 10, 1000)
	for i, place := range d.order(many) {
		s := street(place%len(m.Old), min(i*m.New/many, m.New-1), d.upTo(heaviest), 0, 0)
		if place < len(m.Old) {
			s.Weight = d.from(1, heaviest)
		}
		if d.upTo(2) == 0 {
			s.New = d.upTo(m.New - 1)
		}
		people := d.upTo(most)
		s.People = d.around(people, wide)
		m.Old[s.Old] += people
		m.Streets = append(m.Streets, s)
	}
	return m
}

// small makes a consistent map of few streets and people, so that all truths can be tried.
func (d *dice) small() border.Map { return d.throw(d.of(1, 2, 3, 4, 4, 5, 5), 4, 3) }

// large makes a consistent map with any numbers.
func (d *dice) large() border.Map {
	most := d.of(3, 20, 200, 1250)
	return d.throw(d.from(1, 8), most, d.of(0, most/4, most, 8*most))
}

// limits makes limits that are near to the bounds of the map, or wide.
func (d *dice) limits(m border.Map) border.Range {
	low, high := 40000, 0
	for _, r := range boundsOf(m) {
		low, high = min(low, r.Lo), max(high, r.Hi)
	}
	switch d.upTo(5) {
	case 0:
		return to(0, 40000)
	case 1:
		return to(d.upTo(low), min(40000, high+d.upTo(10)))
	case 2:
		return to(low, high)
	case 3:
		return to(0, d.from(high/2, high))
	}
	mean := sumOf(m.Old) / m.New
	return to(d.from(low/2, mean), d.from(mean, high))
}

// fixed are the consistent maps of this file.
func fixed() []border.Map {
	return []border.Map{
		town(), townOf(120, 60, 2), townOf(70, 90, 2), townOf(100, 60, 1), townOf(100, 60, 4), row(0), row(0, 0), row(0, 1), row(1, 0), row(0, 1, 0), row(3, 3, 3), row(0, 0, 1, 1, 2, 2),
		ring(0, 0, 1, 1, 2, 2), ring(0, 0, 1, 2, 2, 1), ring(0, 0, 0, 0, 1, 1), ring(0, 1, 2, 3, 0, 1, 2, 3), greatest(),
		{Old: list(0), New: 1, Streets: streets(street(0, 0, 1, 0, 0))},
		{Old: list(0, 0), New: 2, Streets: streets(street(1, 1, 1, 0, 5), street(0, 0, 1, 0, 5)), Joins: joins(join(0, 1), join(1, 0), join(0, 1))},
		{Old: list(10, 7), New: 4, Streets: streets(street(0, 3, 1, 0, 9), street(1, 3, 2, 0, 7), street(0, 0, 1, 0, 9), street(0, 0, 1, 0, 9), street(1, 1, 2, 0, 7))},
	}
}

// notConsistent are maps with a count that the people of its streets do not allow.
func notConsistent() []border.Map {
	return []border.Map{
		townOf(121, 60, 2), townOf(69, 60, 1), townOf(100, 91, 2), townOf(100, 19, 4), townOf(0, 0, 2), townOf(10000, 10000, 2),
		{Old: list(1), New: 1, Streets: streets(street(0, 0, 1, 0, 0))}, {Old: list(0), New: 4, Streets: streets(street(0, 0, 1, 1, 1))},
	}
}

// forMaps calls check with the maps of this file, and with so many other consistent ones.
func forMaps(t *testing.T, many int, check func(t *testing.T, d *dice, m border.Map)) {
	t.Helper()
	d := dice(1)
	for _, m := range fixed() {
		check(t, &d, m)
	}
	for i := range many {
		m := d.large()
		if i%3 == 0 {
			m = d.small()
		}
		check(t, &d, m)
		if t.Failed() {
			return
		}
	}
}

// best calls Best, which must find borders or none.
func best(t *testing.T, m border.Map, limits border.Range) (borders []int, moved int, found bool) {
	t.Helper()
	borders, moved, e := border.Best(m, limits)
	if e != api.OK && e != api.ErrNone {
		t.Fatalf("Best of %v within %v: %v, %d, %v", m, limits, borders, moved, e)
	}
	return borders, moved, e == api.OK
}

// sizes calls Bounds.
func sizes(t *testing.T, m border.Map) []border.Range {
	t.Helper()
	l, e := border.Bounds(m)
	if e != api.OK || len(l) != m.New {
		t.Fatalf("Bounds of %v: %v, %v", m, l, e)
	}
	return l
}

// carry calls Carry.
func carry(t *testing.T, m border.Map) (streets, districts []int) {
	t.Helper()
	streets, districts, e := border.Carry(m)
	if e != api.OK || len(streets) != len(m.Streets) || len(districts) != m.New {
		t.Fatalf("Carry of %v: %v, %v, %v", m, streets, districts, e)
	}
	return streets, districts
}
