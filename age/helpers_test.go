package age_test

import (
	"slices"
	"testing"

	"tithing/age"
)

func to(low, high int) age.Range { return age.Range{Lo: low, Hi: high} }

func spans(l ...age.Range) []age.Range { return l }

func list(l ...int) []int { return l }

func rule(from, base, mode, error int) age.Rule {
	return age.Rule{From: from, Base: base, Mode: mode, Error: error}
}

func record(day, rule, written int) age.Record {
	return age.Record{Day: day, Rule: rule, Written: written}
}

// exact and fives are the rules of the chapter's examples.
func exact() age.Rule { return rule(0, 1, age.Down, 0) }

func fives() age.Rule { return rule(20, 5, age.Near, 1) }

// tens writes 20 for 20 and for 25 to 29.
func tens() age.Rule { return rule(25, 10, age.Down, 0) }

func born(low, high int, l ...age.Record) age.Person {
	return age.Person{Born: to(low, high), Rules: []age.Rule{exact(), fives(), tens()}, Records: l}
}

// first, second and wrong are the records of the chapter's examples.
func first() age.Record { return record(10000, 1, 25) }

func second() age.Record { return record(12000, 0, 30) }

func wrong() age.Record { return record(12000, 0, 40) }

// split was 20 years old, or 25 to 29.
func split() age.Person { return born(0, 20000, record(12000, 2, 20)) }

func copyOf(p age.Person) age.Person {
	p.Rules, p.Records = slices.Clone(p.Rules), slices.Clone(p.Records)
	return p
}

func samePerson(p, q age.Person) bool {
	return p.Born == q.Born && slices.Equal(p.Rules, q.Rules) && slices.Equal(p.Records, q.Records)
}

// withRecords returns the person with these records behind the others.
func withRecords(p age.Person, l ...age.Record) age.Person {
	p.Records = slices.Concat(p.Records, l)
	return p
}

// without returns the person without the records of the list.
func without(p age.Person, left []int) age.Person {
	var kept []age.Record
	for i, r := range p.Records {
		if !slices.Contains(left, i) {
			kept = append(kept, r)
		}
	}
	p.Records = kept
	return p
}

func distance(a, b int) int { return max(a-b, b-a) }

// writes returns what the rule writes, as the chapter defines it: all multiples are tried.
func writes(r age.Rule, known int) int {
	if known < r.From {
		return known
	}
	best := 0
	for n := 0; n <= 140; n += r.Base {
		down := r.Mode == age.Down && n <= known
		near := r.Mode == age.Near && distance(n, known) <= distance(best, known)
		if down || near {
			best = n
		}
	}
	return best
}

// canWrite reports whether the rule can write the number for the true age, as the chapter defines it: all known ages are tried.
func canWrite(r age.Rule, trueAge, written int) bool {
	for known := range 126 {
		if distance(known, trueAge) <= r.Error && writes(r, known) == written {
			return true
		}
	}
	return false
}

// trueAges tells of each age whether the rule can write the number for it.
func trueAges(r age.Rule, written int) []bool {
	can := make([]bool, 121)
	for n := range can {
		can[n] = canWrite(r, n, written)
	}
	return can
}

// rangesOf returns the numbers from low on that are true, as ranges.
func rangesOf(low int, is []bool) []age.Range {
	var l []age.Range
	for i, ok := range is {
		if ok && i > 0 && is[i-1] {
			l[len(l)-1].Hi++
		} else if ok {
			l = append(l, to(low+i, low+i))
		}
	}
	return l
}

func has(l []age.Range, n int) bool {
	return slices.ContainsFunc(l, func(r age.Range) bool { return r.Lo <= n && n <= r.Hi })
}

// ageOn returns the age on the day, by counting birthdays.
func ageOn(birth, day int) int {
	birthdays := 0
	for birth+365*(birthdays+1) <= day {
		birthdays++
	}
	return birthdays
}

// refusals returns for each day of Born the set of records, bit by bit, that do not allow it.
func refusals(p age.Person) []int {
	sets := make([]int, p.Born.Hi-p.Born.Lo+1)
	for n, r := range p.Records {
		can := trueAges(p.Rules[r.Rule], r.Written)
		for i := range sets {
			birth := p.Born.Lo + i
			if birth > r.Day || (r.Day-birth)/365 > 120 || !can[(r.Day-birth)/365] {
				sets[i] |= 1 << n
			}
		}
	}
	return sets
}

// possible tells of each day of Born whether all records allow it.
func possible(p age.Person) []bool {
	days := make([]bool, p.Born.Hi-p.Born.Lo+1)
	for i, refused := range refusals(p) {
		days[i] = refused == 0
	}
	return days
}

// agesOf returns the ages on the day of all that were born on a possible day, and not later.
func agesOf(p age.Person, day int) []age.Range {
	is := make([]bool, 280)
	for i, ok := range possible(p) {
		if birth := p.Born.Lo + i; ok && birth <= day {
			is[(day-birth)/365] = true
		}
	}
	return rangesOf(0, is)
}

// numbersOf returns the numbers of a set, bit by bit.
func numbersOf(set int) []int {
	var l []int
	for i := range 8 {
		if set&(1<<i) != 0 {
			l = append(l, i)
		}
	}
	return l
}

// smaller reports whether the first list is shorter, or as long and before the other one.
func smaller(l, other []int) bool {
	return len(l) < len(other) || len(l) == len(other) && slices.Compare(l, other) < 0
}

// leastLeft finds the smallest set of records: for some day it has just those that do not allow this day.
func leastLeft(p age.Person) []int {
	seen := map[int]bool{}
	var best []int
	for i, refused := range refusals(p) {
		if seen[refused] {
			continue
		}
		seen[refused] = true
		if l := numbersOf(refused); i == 0 || smaller(l, best) {
			best = l
		}
	}
	return best
}

// dice are thrown in the same way in each run.
type dice uint64

func (d *dice) upTo(most int) int {
	*d = *d*6364136223846793005 + 1442695040888963407
	return int(uint64(*d)>>33) % (most + 1)
}

func (d *dice) from(low, high int) int { return low + d.upTo(high-low) }

func (d *dice) within(low, high int) age.Range {
	a, b := d.from(low, high), d.from(low, high)
	return to(min(a, b), max(a, b))
}

func (d *dice) throwRule() age.Rule {
	switch base := d.from(1, 12); d.upTo(3) {
	case 0:
		return rule(0, base, d.upTo(1), d.upTo(2))
	case 1:
		return rule(d.upTo(120), base, d.upTo(1), d.upTo(5))
	default:
		return d.throwSplitRule()
	}
}

// throwSplitRule makes a rule that writes the multiple before From for ages of both sides.
func (d *dice) throwSplitRule() age.Rule {
	base := d.from(8, 12)
	return rule(d.from(1, 5)*base+d.from(3, base-1), base, age.Down, d.upTo(3)/3)
}

// throwRecord makes a record that is written by a rule of the person for somebody who was born on the day of birth, and for whom the age is known as wrongly as it may be.
func (d *dice) throwRecord(p age.Person, birth int) age.Record {
	n := d.upTo(len(p.Rules) - 1)
	r := p.Rules[n]
	day := min(birth+d.upTo(121*365-1), 50000)
	if d.upTo(2) == 0 {
		day = min(birth+d.upTo(40*365), 50000)
	}
	known := max(0, ageOn(birth, day)+d.from(-r.Error, r.Error))
	return record(day, n, writes(r, known))
}

// throwTrue makes a person whose at most 8 records are all true, and the true day of birth.
func (d *dice) throwTrue() (p age.Person, birth int) {
	birth = d.from(-20000, 20000)
	if d.upTo(5) == 0 {
		birth = d.from(-50000, 50000)
	}
	p.Born = to(max(-50000, birth-d.upTo(6000)), min(50000, birth+d.upTo(6000)))
	for range d.from(1, 4) {
		p.Rules = append(p.Rules, d.throwRule())
	}
	for range d.upTo(8) {
		p.Records = append(p.Records, d.throwRecord(p, birth))
	}
	return p, birth
}

// throwPerson makes a person of whose records some may be wrong.
func (d *dice) throwPerson() age.Person {
	p, birth := d.throwTrue()
	for i := range p.Records {
		switch d.upTo(11) {
		case 0:
			p.Records[i] = d.throwRecord(p, birth+d.from(-2000, 2000))
		case 1:
			p.Records[i].Written = min(p.Records[i].Written+d.upTo(12), 140)
		case 2:
			p.Records[i].Day = d.from(max(-50000, birth-400), 50000)
		}
		p.Records[i].Day = max(-50000, p.Records[i].Day)
	}
	return p
}

// throwSplit makes a person who can have had ages before From or after it.
func (d *dice) throwSplit() age.Person {
	r := d.throwSplitRule()
	day := d.from(-10000, 30000)
	p := age.Person{Born: d.within(-40000, 40000), Rules: []age.Rule{r, d.throwRule()}}
	for range d.from(1, 3) {
		p.Records = append(p.Records, record(day+d.upTo(500), 0, r.From/r.Base*r.Base))
	}
	return p
}

// forPersons calls check with the persons of this file, and with many others.
func forPersons(t *testing.T, check func(t *testing.T, d *dice, p age.Person)) {
	t.Helper()
	d := dice(1)
	for _, p := range []age.Person{born(0, 20000), born(0, 20000, first()), born(0, 20000, first(), second()), born(0, 20000, first(), second(), wrong()), split(), born(-50000, 50000, wrong(), second(), second())} {
		check(t, &d, p)
	}
	for range 300 {
		check(t, &d, d.throwPerson())
		if d.upTo(4) == 0 {
			check(t, &d, d.throwSplit())
		}
		if t.Failed() {
			return
		}
	}
}
