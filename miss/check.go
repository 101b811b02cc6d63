package miss

import "tithing/api"

// every reports whether all elements of the list are as asked.
func every[T any](list []T, asked func(T) bool) bool {
	for _, x := range list {
		if !asked(x) {
			return false
		}
	}
	return true
}

func (r Range) has(n int) bool { return r.Lo <= n && n <= r.Hi }

// arePersons reports whether there can be as many persons as the numbers tell, together. Each number is asked first, as the sum of others need not fit into an int.
func arePersons(numbers ...int) bool {
	persons := Range{0, api.MaxMissPersons}
	return every(numbers, persons.has) && persons.has(sum(numbers...))
}

func isLot(lot int) bool { return lot >= 0 }

func (f Fraction) isLevel() bool {
	dens, nums := Range{1, api.MaxMissDen}, Range{0, f.Den}
	return dens.has(f.Den) && nums.has(f.Num)
}

func (a Area) valid() bool {
	samples, founds := Range{0, a.Listed}, Range{0, a.Sample}
	return arePersons(a.Listed, a.Most) && samples.has(a.Sample) && founds.has(a.Found)
}

// read reads an area; its error is the one of the area, or of the number of missed persons.
func read(a Area, missed int) (survey, api.Errno) {
	if e := CheckArea(a); e != api.OK {
		return survey{}, e
	}
	s := survey{a, counter()}
	if !s.missed().has(missed) {
		return survey{}, api.ErrRange
	}
	return s, api.OK
}
