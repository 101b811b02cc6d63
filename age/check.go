package age

import "tithing/api"

// every reports whether all elements of the list are as asked.
func every[T any](list []T, asked func(T) bool) bool {
	for _, x := range list {
		if !asked(x) {
			return false
		}
	}
	return true
}

func areDays(days ...int) bool { return every(days, anyDay().has) }

func areWritten(numbers ...int) bool {
	possible := Range{0, api.MaxAgeWritten}
	return every(numbers, possible.has)
}

func isBase(base int) bool { return 1 <= base && base <= api.MaxAgeBase }

func (r Rule) valid() bool {
	froms, errors := anyAge(), Range{0, api.MaxAgeError}
	return froms.has(r.From) && isBase(r.Base) && (r.Mode == Down || r.Mode == Near) && errors.has(r.Error)
}

// valid reports whether the person, whose lists are not too long, is valid.
func (p Person) valid() bool {
	return p.Born.within(anyDay()) && len(p.Rules) > 0 && every(p.Rules, Rule.valid) && every(p.Records, p.canHave)
}

// canHave reports whether the record can be one of the person.
func (p Person) canHave(r Record) bool {
	return areDays(r.Day) && 0 <= r.Rule && r.Rule < len(p.Rules) && areWritten(r.Written)
}
