package name

import "tithing/api"

// every reports whether all elements of the list are as asked.
func every[T any](list []T, asked func(T) bool) bool {
	for _, x := range list {
		if !asked(x) {
			return false
		}
	}
	return true
}

// check returns the first error of the rules, of a list of names and of further names.
func (r Rules) check(list []string, more ...string) api.Errno {
	if len(r.Classes) > api.MaxNameClasses || len(list) > api.MaxNameList || !every(list, isShort) || !every(more, isShort) {
		return api.ErrLimit
	}
	if !r.valid() {
		return api.ErrArg
	}
	isName := anyLetter().spells
	if !every(list, isName) || !every(more, isName) {
		return api.ErrForm
	}
	return api.OK
}

func isShort(name string) bool { return len(name) <= api.MaxNameLetters }

func isLimit(limit int) bool { return 0 <= limit && limit <= api.MaxNameLimit }

func isCost(cost int) bool { return 0 <= cost && cost <= api.MaxNameCost }

// valid reports whether the rules, whose Classes are not too many, are valid.
func (r Rules) valid() bool {
	letters := anyLetter()
	if !every(r.Classes, letters.spells) || r.Soft != "" && !letters.spells(r.Soft) {
		return false
	}
	costs := []int{r.Alike, r.Other, r.Skip, r.SoftSkip, r.Double}
	return noneTwice(r.Classes...) && noneTwice(r.Soft) && every(r.Classes, r.softOrNot) && every(costs, isCost)
}

// softOrNot reports whether the letters of the class are all in Soft, or none of them is.
func (r Rules) softOrNot(class string) bool {
	soft := setOf(r.Soft)
	return soft.spells(class) || soft.others().spells(class)
}
