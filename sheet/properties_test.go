package sheet_test

import (
	"slices"
	"testing"

	"tithing/api"
	"tithing/sheet"
)

// P2.8: in each valid assignment the number of persons is in the range; entries of one person can be the same, and those of two need not be.
func TestEveryAssignment(t *testing.T) {
	forCensuses(t, 6, func(t *testing.T, d *dice, c sheet.Census) {
		r, _, e := sheet.Persons(c)
		for _, of := range know(c).assignments {
			persons := 0
			for _, person := range of {
				persons = max(persons, person+1)
			}
			if e != api.OK || persons < r.Lo || persons > r.Hi {
				t.Errorf("Persons of %v: %v, %v; %v has %d", c, r, e, of, persons)
			}
			if len(of) == 0 {
				continue
			}
			a, b := d.upTo(len(of)-1), d.upTo(len(of)-1)
			can, must, e := sheet.Together(c, a, b)
			if e != api.OK || of[a] == of[b] && !can || of[a] != of[b] && must {
				t.Errorf("Together of %v, %d, %d: %v, %v, %v in %v", c, a, b, can, must, e, of)
			}
		}
	})
}

// P2.9: each number in the range is one of some valid assignment, and for both ends Show returns one.
func TestEnds(t *testing.T) {
	wide := 0
	forCensuses(t, 6, func(t *testing.T, d *dice, c sheet.Census) {
		r, _, e := sheet.Persons(c)
		if e != api.OK {
			return
		}
		counts := know(c).counts
		for persons := r.Lo; persons <= r.Hi; persons++ {
			if !counts[persons] {
				t.Errorf("Persons of %v: %v, and yet no assignment has %d", c, r, persons)
			}
		}
		if r.Hi-r.Lo > 1 {
			wide++
		}
		checkShow(t, c, r)
	})
	if wide < 20 {
		t.Errorf("only %d ranges are wide", wide)
	}
}

// P2.9 for censuses with ten entries: with each number of all persons within the range there is an assignment.
func TestEndsOfTen(t *testing.T) {
	for _, c := range []sheet.Census{alike(10), twins(to(0, 200)), withSame(withApart(alike(10), pair(3, 7)), pair(0, 9)), withSame(withApart(twins(to(0, 200)), pair(0, 2)), pair(1, 9))} {
		r, _, e := sheet.Persons(c)
		if e != api.OK || r.Lo > 2 || r.Hi < 9 {
			t.Errorf("Persons of %v: %v, %v", c, r, e)
		}
		for persons := range 12 {
			c.Number = to(persons, persons)
			p, o, e := sheet.Persons(c)
			if persons < r.Lo || persons > r.Hi {
				if e != api.ErrFail {
					t.Errorf("Persons of %v: %v, %v", c, p, e)
				}
				continue
			}
			if p != c.Number || o != to(0, 0) || e != api.OK {
				t.Errorf("Persons of %v: %v, %v, %v", c, p, o, e)
			}
			checkShow(t, c, p)
		}
	}
}

func (d *dice) narrower(r sheet.Range) sheet.Range { return d.within(r.Lo, r.Hi) }

// stricter returns censuses like the census with one more pair, or a narrower range.
func stricter(d *dice, c sheet.Census) []sheet.Census {
	var l []sheet.Census
	if n := len(c.Entries); n > 1 {
		l = append(l, withSame(c, d.throwPair(n)), withApart(c, d.throwPair(n)))
	}
	if n := len(c.Entries); n > 0 {
		other := copyOf(c)
		one := &other.Entries[d.upTo(n-1)]
		one.Ages = d.narrower(one.Ages)
		l = append(l, other)
	}
	omitted, number := copyOf(c), copyOf(c)
	omitted.Omitted, number.Number = d.narrower(c.Omitted), d.narrower(c.Number)
	if c.Number == to(0, 200) {
		number.Number = d.within(0, 12)
	}
	return append(l, omitted, number)
}

// inside reports whether the range is in the other one.
func inside(r, other sheet.Range) bool { return other.Lo <= r.Lo && r.Hi <= other.Hi }

// P2.10: with one more pair, or a narrower range, no range of Persons is wider, unless the census is not consistent then.
func TestMoreRules(t *testing.T) {
	narrower := 0
	forCensuses(t, 9, func(t *testing.T, d *dice, c sheet.Census) {
		p, o, e := sheet.Persons(c)
		for _, other := range stricter(d, c) {
			q, r, f := sheet.Persons(other)
			if f == api.ErrFail {
				continue
			}
			if e != api.OK || f != api.OK || !inside(q, p) || !inside(r, o) {
				t.Errorf("Persons of %v: %v, %v, %v; of %v: %v, %v, %v", c, p, o, e, other, q, r, f)
			}
			if p != q {
				narrower++
			}
		}
	})
	if narrower < 50 {
		t.Errorf("only %d ranges are narrower", narrower)
	}
}

// chained reports whether pairs of Same connect the two entries.
func chained(c sheet.Census, first, second int) bool {
	reached := map[int]bool{first: true}
	for range c.Same {
		for _, p := range c.Same {
			if reached[p.First] || reached[p.Second] {
				reached[p.First], reached[p.Second] = true, true
			}
		}
	}
	return reached[second]
}

// P2.11: without a number entries can be the same if Same may have them, and must be if it connects them.
func TestWithoutNumber(t *testing.T) {
	consistent := 0
	forCensuses(t, 9, func(t *testing.T, d *dice, c sheet.Census) {
		c.Number = to(0, 200)
		if _, _, e := sheet.Persons(c); e != api.OK {
			return
		}
		consistent++
		for a := range c.Entries {
			for b := range c.Entries {
				can, must, e := sheet.Together(c, a, b)
				want := a == b
				if a != b {
					_, _, f := sheet.Persons(withSame(c, pair(a, b)))
					want = f == api.OK
				}
				if can != want || must != chained(c, a, b) || e != api.OK {
					t.Errorf("Together of %v, %d, %d: %v, %v, %v", c, a, b, can, must, e)
				}
			}
		}
	})
	if consistent < 100 {
		t.Errorf("only %d censuses are consistent", consistent)
	}
}

// reordered returns the census with its entries and pairs in another order; new has the new number of each entry.
func reordered(d *dice, c sheet.Census) (other sheet.Census, new []int) {
	other = copyOf(c)
	for n := range c.Entries {
		new = append(new, n)
		i := d.upTo(n)
		new[n], new[i] = new[i], new[n]
	}
	for n, one := range c.Entries {
		other.Entries[new[n]] = one
	}
	for _, l := range [][]sheet.Pair{other.Same, other.Apart} {
		slices.Reverse(l)
		for i, p := range l {
			l[i] = pair(new[p.Second], new[p.First])
		}
	}
	return other, new
}

// P2.12, P7: if entries and pairs are listed in another order, what is returned is the same but for the numbers.
func TestOtherOrder(t *testing.T) {
	forCensuses(t, 9, func(t *testing.T, d *dice, c sheet.Census) {
		other, new := reordered(d, c)
		p, o, e := sheet.Persons(c)
		if q, r, f := sheet.Persons(other); p != q || o != r || e != f {
			t.Errorf("Persons of %v: %v, %v, %v; of %v: %v, %v, %v", c, p, o, e, other, q, r, f)
		}
		doubled, _ := sheet.Doubled(c)
		for i, n := range doubled {
			doubled[i] = new[n]
		}
		slices.Sort(doubled)
		if l, f := sheet.Doubled(other); !slices.Equal(l, doubled) || e != f {
			t.Errorf("Doubled of %v: %v, %v; of %v: %v, %v", c, doubled, e, other, l, f)
		}
		for a := range c.Entries {
			b := d.upTo(len(c.Entries) - 1)
			can, must, e := sheet.Together(c, a, b)
			if k, l, f := sheet.Together(other, new[b], new[a]); can != k || must != l || e != f {
				t.Errorf("Together of %v, %d, %d: %v, %v, %v; of %v: %v, %v, %v", c, a, b, can, must, e, other, k, l, f)
			}
		}
		dropped, e := sheet.Drop(c)
		if l, f := sheet.Drop(other); len(l) != len(dropped) || e != f {
			t.Errorf("Drop of %v: %v, %v; of %v: %v, %v", c, dropped, e, other, l, f)
		}
	})
}

// numbersOf returns the numbers of a set, bit by bit.
func numbersOf(s int) []int {
	var l []int
	for i := range 12 {
		if s&(1<<i) != 0 {
			l = append(l, i)
		}
	}
	return l
}

// P2.13: without the minimum set of pairs the census is consistent; without any smaller set, or an earlier one as large, it is not.
func TestDroppedPairs(t *testing.T) {
	dropped := 0
	forCensuses(t, 8, func(t *testing.T, d *dice, c sheet.Census) {
		if n := len(c.Entries); n > 1 {
			c.Same, c.Apart = append(c.Same, d.throwPair(n)), append(c.Apart, d.throwPair(n))
		}
		set, e := sheet.Drop(c)
		if _, _, f := sheet.Persons(without(c, 1<<12-1)); e != f {
			t.Errorf("Drop of %v: %v, %v; without any pairs: %v", c, set, e, f)
		}
		if e != api.OK {
			return
		}
		dropped += len(set)
		for s := range 1 << (len(c.Same) + len(c.Apart)) {
			l := numbersOf(s)
			_, _, f := sheet.Persons(without(c, s))
			smaller := len(l) < len(set) || len(l) == len(set) && slices.Compare(l, set) < 0
			if smaller && f != api.ErrFail || slices.Equal(l, set) && f != api.OK {
				t.Errorf("Drop of %v: %v; without %v: %v", c, set, l, f)
			}
		}
	})
	if dropped < 100 {
		t.Errorf("only %d pairs are dropped", dropped)
	}
}

// P2.14: each solution has possible codes only, and at least as many errors; with one more coder who has it, only its codes are possible.
func TestEverySolution(t *testing.T) {
	forCodings(t, func(t *testing.T, d *dice, c sheet.Coding) {
		l, e := sheet.Codes(c)
		fewest, f := sheet.Errors(c)
		solutions := solutionsOf(c)
		for _, codes := range solutions {
			_, sum := errorsOf(c, codes)
			if e != api.OK || f != api.OK || sum < fewest {
				t.Errorf("Codes, Errors of %v: %v, %v; %d, %v; %v has %d", c, l, e, fewest, f, codes, sum)
				return
			}
			for n, code := range codes {
				if !slices.Contains(l[n], code) {
					t.Errorf("Codes of %v: %v; a solution is %v", c, l, codes)
				}
			}
		}
		if len(solutions) == 0 || len(c.Codes) == 3 {
			return
		}
		codes := solutions[d.upTo(len(solutions)-1)]
		more := coding(append(slices.Clone(c.Wrong), 0), append(copyLists(c.Codes), codes)...)
		_, sum := errorsOf(c, codes)
		var want [][]int
		for _, code := range codes {
			want = append(want, list(code))
		}
		l, e = sheet.Codes(more)
		n, f := sheet.Errors(more)
		if !sameLists(l, want) || n != sum || e != api.OK || f != api.OK {
			t.Errorf("Codes, Errors of %v: %v, %v; %d, %v", more, l, e, n, f)
		}
	})
}

// stricterCodings returns codings like the coding with one more coder, or a lower number Wrong.
func stricterCodings(d *dice, c sheet.Coding) []sheet.Coding {
	var l []sheet.Coding
	if len(c.Codes) < 3 {
		codes := slices.Clone(c.Codes[0])
		codes[d.upTo(len(codes)-1)] = d.upTo(9)
		l = append(l, coding(append(slices.Clone(c.Wrong), d.upTo(len(codes))), append(copyLists(c.Codes), codes)...))
	}
	for coder, wrong := range c.Wrong {
		if wrong > 0 {
			less := coding(slices.Clone(c.Wrong), copyLists(c.Codes)...)
			less.Wrong[coder] -= 1 + d.upTo(wrong-1)
			l = append(l, less)
		}
	}
	return l
}

// P2.15: with one more coder, or a lower number Wrong, no list of codes is longer, and the number of errors is not lower, unless there is no solution then.
func TestMoreCoders(t *testing.T) {
	d := dice(5)
	compared := 0
	for range 300 {
		c := d.throwCoding(8)
		l, e := sheet.Codes(c)
		n, _ := sheet.Errors(c)
		for _, other := range stricterCodings(&d, c) {
			k, f := sheet.Codes(other)
			m, g := sheet.Errors(other)
			if f == api.ErrFail && g == f {
				continue
			}
			compared++
			if e != api.OK || f != api.OK || g != api.OK || len(k) != len(l) || m < n {
				t.Fatalf("Codes, Errors of %v: %v, %v; %d; of %v: %v, %v; %d, %v", c, l, e, n, other, k, f, m, g)
			}
			for i := range l {
				if len(k[i]) > len(l[i]) {
					t.Errorf("Codes of %v: %v; of %v: %v", c, l, other, k)
				}
			}
		}
	}
	if compared < 100 {
		t.Errorf("only %d codings are compared", compared)
	}
}
