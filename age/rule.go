package age

import "tithing/api"

// mode is a way of rounding.
type mode struct {
	round func(r Rule, age int) int
}

// figure is a number that was written by a rule.
type figure struct {
	Rule
	written int
}

// ageSet tells of each age whether it is one of the set.
type ageSet [api.MaxAgeAge + 1]bool

// table has the true ages of the figures that were asked for.
type table map[figure]ageSet

func (r Rule) down(age int) int { return age - age%r.Base }

// near adds half of the base, so that of two multiples that are equally near the greater one is the result.
func (r Rule) near(age int) int { return r.down(age + r.Base/2) }

func (r Rule) mode() mode {
	if r.Mode == Near {
		return mode{Rule.near}
	}
	return mode{Rule.down}
}

// writes returns what the rule writes for the known age.
func (r Rule) writes(known int) int {
	if known < r.From {
		return known
	}
	return r.mode().round(r, known)
}

// trueAges returns the true ages for which the rule can write the number.
func (f figure) trueAges() ageSet {
	var out ageSet
	for age := range out {
		for known := greatest(0, age-f.Error); known <= age+f.Error; known++ {
			if f.writes(known) == f.written {
				out[age] = true
			}
		}
	}
	return out
}

func (t table) of(f figure) ageSet {
	known, ok := t[f]
	if !ok {
		known = f.trueAges()
		t[f] = known
	}
	return known
}

// count returns how many ages of the set are in the range.
func (a ageSet) count(inside Range) int {
	many := 0
	for age := range api.MaxAgeAge + 1 {
		if a[age] && inside.has(age) {
			many++
		}
	}
	return many
}

func (a ageSet) ranges() []Range {
	var list []Range
	for age, ok := range a {
		if ok {
			list = append(list, Range{age, age})
		}
	}
	return joined(list)
}
