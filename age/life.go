package age

import (
	"iter"
	"slices"

	"tithing/api"
)

const yearDays = 365

// life is a person at work, with what has been found out about the records.
type life struct {
	Person
	known   table
	allowed [api.MaxAgeRecords][]Range // for each record the days of birth that it allows
}

// years returns the age on the day of somebody who was born on the day of birth, which is not later.
func years(birth, day int) int { return (day - birth) / yearDays }

// birthsFor returns the days of birth of those who have the age on the day.
func birthsFor(age, day int) Range {
	return Range{day - yearDays*(age+1) + 1, day - yearDays*age}
}

// agesOn returns the ages on the day of those who were born on one of the days, and not later than the day.
func agesOn(births []Range, day int) []Range {
	var list []Range
	for _, born := range common(births, []Range{{-api.MaxAgeDay, day}}) {
		list = append(list, Range{years(born.Hi, day), years(born.Lo, day)})
	}
	return joined(list)
}

// read reads a person; its error is the one of the person.
func read(p Person) (*life, api.Errno) {
	if e := CheckPerson(p); e != api.OK {
		return nil, e
	}
	l := &life{Person: p, known: table{}}
	for i, r := range l.Records {
		var days []Range
		for age := range l.agesOf(r) {
			days = append(days, birthsFor(age, r.Day))
		}
		l.allowed[i] = joined(days)
	}
	return l, api.OK
}

// birthsOfBoth returns the days of birth that are possible for both persons; its error is the one of a person.
func birthsOfBoth(p, q Person) ([]Range, api.Errno) {
	one, e := read(p)
	if e != api.OK {
		return nil, e
	}
	other, e := read(q)
	if e != api.OK {
		return nil, e
	}
	return common(one.births(), other.births()), api.OK
}

func (l *life) trueAges(r Record) ageSet { return l.known.of(figure{l.Rules[r.Rule], r.Written}) }

// agesOf yields the ages on its day that the record allows.
func (l *life) agesOf(r Record) iter.Seq[int] {
	return func(yield func(int) bool) {
		for age, ok := range l.trueAges(r) {
			if ok && !yield(age) {
				return
			}
		}
	}
}

// allows reports whether the record allows the day of birth. It asks the definition, not the days of read, so that a proof does not rest on them.
func (l *life) allows(r Record, birth int) bool {
	if birth > r.Day {
		return false
	}
	age := years(birth, r.Day)
	return anyAge().has(age) && l.trueAges(r)[age]
}

// births returns the possible days of birth.
func (l *life) births() []Range {
	days := []Range{l.Born}
	for i := range l.Records {
		days = common(days, l.allowed[i])
	}
	return days
}

// smallestSet returns the smallest set of records that can be left out.
func (l *life) smallestSet() []int {
	var set []int
search:
	for many := range len(l.Records) + 1 {
		for left, days := range l.leave(many) {
			if len(days) > 0 {
				set = left
				break search
			}
		}
	}
	return set
}

// leave yields the rising lists of that many records, in lexicographic order, each with the days of Born that all other records allow.
func (l *life) leave(many int) iter.Seq2[[]int, []Range] {
	return func(yield func([]int, []Range) bool) {
		// next decides about the record n: of those before it the ones in left are left out, and all others allow the days. It reports whether to go on.
		var next func(n int, left []int, days []Range) bool
		next = func(n int, left []int, days []Range) bool {
			if n == len(l.Records) {
				return len(left) < many || yield(left, days)
			}
			if len(left) < many && !next(n+1, slices.Concat(left, []int{n}), days) {
				return false
			}
			return next(n+1, left, common(days, l.allowed[n]))
		}
		next(0, nil, []Range{l.Born})
	}
}
