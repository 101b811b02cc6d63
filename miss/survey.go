package miss

import (
	"slices"

	"tithing/api"
)

// survey is an area at work.
type survey struct {
	Area
	ways func(n, k int) int
}

// trial is a survey whose numbers of missed persons are tried by a level.
type trial struct {
	survey
	level Fraction
}

// missed has all numbers of missed persons.
func (s survey) missed() Range { return Range{0, s.Most} }

// spread returns the chances of all numbers of found persons, if so many were missed.
func (s survey) spread(missed int) *spread {
	out := &spread{Area: s.Area, all: s.ways(s.Listed+missed, s.Sample)}
	founds := Range{0, s.Sample}
	for found := range founds.numbers() {
		out.samples[found] = s.ways(s.Listed, found) * s.ways(missed, s.Sample-found)
	}
	return out
}

// chance returns the chance of Found, if so many persons were missed.
func (s survey) chance(missed int) Fraction {
	chances := s.spread(missed)
	return fraction(chances.samples[s.Found], chances.all)
}

// someOther returns the chance that the sample has at least one person who is not on the lists, if so many were missed.
func (s survey) someOther(missed int) Fraction {
	all := s.ways(s.Listed+missed, s.Sample)
	return fraction(all-s.ways(s.Listed, s.Sample), all)
}

// likely returns the likely numbers of missed persons.
func (s survey) likely() []int {
	var list []int
	highest := Fraction{0, 1}
	for missed := range s.missed().numbers() {
		chance := s.chance(missed)
		order := chance.compare(highest)
		if order > 0 {
			highest, list = chance, nil
		}
		if order >= 0 && chance.Num > 0 {
			list = append(list, missed)
		}
	}
	return list
}

// excludes reports whether the level excludes the number of missed persons.
func (t trial) excludes(missed int) bool {
	chances := t.spread(missed)
	isLow := func(side tail) bool { return side.of(chances).compare(t.level) < 0 }
	return slices.ContainsFunc([]tail{lower(), upper()}, isLow)
}

// left returns the numbers of missed persons that the level does not exclude.
func (t trial) left() []int {
	return slices.DeleteFunc(slices.Collect(t.missed().numbers()), t.excludes)
}

// smallestSample returns the number of persons in the smallest sample that is large enough for the numbers of missed persons; its error tells that there is none.
func smallestSample(listed int, missed Range, level Fraction) (int, api.Errno) {
	smallest, e := 0, api.ErrFail
	ways, samples := counter(), Range{0, listed}
search:
	for sample := range samples.numbers() {
		s := survey{Area{listed, missed.Hi, sample, 0}, ways}
		for others := range missed.numbers() {
			if s.someOther(others).compare(level) < 0 {
				continue search
			}
		}
		smallest, e = sample, api.OK
		break search
	}
	return smallest, e
}
