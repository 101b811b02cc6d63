package sheet

import "tithing/api"

// manyCodes is how many codes there are.
const manyCodes = api.MaxSheetCode + 1

// tally tells how many of the first entries each coder has coded incorrectly.
type tally struct {
	entries int
	wrong   [api.MaxSheetCoders]int
}

// answer tells of all solutions of a coding which codes they have, and how many errors at least.
type answer struct {
	possible [api.MaxSheetEntries][manyCodes]bool
	errors   int
}

// after returns the tally with one entry more, whose correct code this is.
func (c Coding) after(t tally, code int) tally {
	for coder, list := range c.Codes {
		if list[t.entries] != code {
			t.wrong[coder]++
		}
	}
	t.entries++
	return t
}

func (c Coding) allows(t tally) bool {
	for coder, most := range c.Wrong {
		if t.wrong[coder] > most {
			return false
		}
	}
	return true
}

// errors returns how many errors the tally has.
func (t tally) errors() int {
	sum := 0
	for _, wrong := range t.wrong {
		sum += wrong
	}
	return sum
}

// solve searches the solutions of the coding; its error is one of the coding, or that there is no solution.
func solve(c Coding) (*answer, api.Errno) {
	if e := CheckCoding(c); e != api.OK {
		return nil, e
	}
	a := &answer{}
	known := map[tally]int{}
	// search returns the fewest errors of the solutions that begin with the tally. As it is called only with tallies that some codes lead to, each code from which it finds a solution is possible.
	var search func(t tally) int
	search = func(t tally) int {
		if !c.allows(t) {
			return never
		}
		if t.entries == c.entries() {
			return t.errors()
		}
		if fewest, ok := known[t]; ok {
			return fewest
		}
		fewest := never
		for code := range manyCodes {
			errors := search(c.after(t, code))
			if errors < never {
				a.possible[t.entries][code] = true
			}
			fewest = minimum(fewest, errors)
		}
		known[t] = fewest
		return fewest
	}
	a.errors = search(tally{})
	if a.errors == never {
		return nil, api.ErrFail
	}
	return a, api.OK
}

// codes returns the possible codes of the entry.
func (a *answer) codes(entry int) []int {
	var list []int
	for code, ok := range a.possible[entry] {
		if ok {
			list = append(list, code)
		}
	}
	return list
}
