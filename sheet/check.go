package sheet

import "tithing/api"

// every reports whether all elements of the list are as asked.
func every[T any](list []T, asked func(T) bool) bool {
	for _, x := range list {
		if !asked(x) {
			return false
		}
	}
	return true
}

func rises(list []int) bool {
	for i := 1; i < len(list); i++ {
		if list[i-1] >= list[i] {
			return false
		}
	}
	return true
}

func minimum(first int, more ...int) int {
	for _, n := range more {
		if n < first {
			first = n
		}
	}
	return first
}

func maximum(first int, more ...int) int {
	for _, n := range more {
		if n > first {
			first = n
		}
	}
	return first
}

// end tells which end of a range is meant.
type end struct {
	of func(Range) int
}

func (r Range) low() int { return r.Lo }

func (r Range) high() int { return r.Hi }

func (r Range) has(n int) bool { return r.Lo <= n && n <= r.Hi }

func (r Range) empty() bool { return r.Lo > r.Hi }

// upTo reports whether the range is one, and its ends are from 0 to most.
func (r Range) upTo(most int) bool { return 0 <= r.Lo && !r.empty() && r.Hi <= most }

// both returns the numbers that both ranges have.
func (r Range) both(other Range) Range {
	return Range{Lo: maximum(r.Lo, other.Lo), Hi: minimum(r.Hi, other.Hi)}
}

// canBelongTo reports whether the two entries, by themselves, can belong to one person.
func (one Entry) canBelongTo(other Entry) bool {
	return one.Schedule != other.Schedule && one.Sex == other.Sex && one.Key == other.Key && !one.Ages.both(other.Ages).empty()
}

// valid reports whether the census, whose lists are not too long, is valid.
func (c Census) valid() bool {
	return every(c.Entries, c.canHave) && every(c.Same, c.canPair) && every(c.Apart, c.canPair) &&
		c.Omitted.upTo(api.MaxSheetOmitted) && c.Number.upTo(api.MaxSheetNumber)
}

// canHave reports whether the entry can be one of a census.
func (c Census) canHave(one Entry) bool {
	schedules, sexes, keys := Range{0, api.MaxSheetSchedules - 1}, Range{0, 1}, Range{0, api.MaxSheetKey}
	return schedules.has(one.Schedule) && sexes.has(one.Sex) && keys.has(one.Key) && one.Ages.upTo(api.MaxSheetAge)
}

func (c Census) isEntry(n int) bool { return 0 <= n && n < len(c.Entries) }

func (c Census) canPair(p Pair) bool {
	return c.isEntry(p.First) && c.isEntry(p.Second) && p.First != p.Second
}

// canList reports whether the list has entries of the census as they are listed for a person.
func (c Census) canList(person []int) bool {
	return len(person) > 0 && rises(person) && every(person, c.isEntry)
}

func isCode(code int) bool { return 0 <= code && code <= api.MaxSheetCode }

func isWrong(many int) bool { return 0 <= many && many <= api.MaxSheetEntries }

func isShort(codes []int) bool { return len(codes) <= api.MaxSheetEntries }

// valid reports whether the coding, whose lists of Codes are not too many and not too long, is valid.
func (c Coding) valid() bool {
	return len(c.Codes) > 0 && len(c.Codes) == len(c.Wrong) && c.entries() > 0 &&
		every(c.Codes, c.canHave) && every(c.Wrong, isWrong)
}

// entries returns how many entries were coded.
func (c Coding) entries() int { return len(c.Codes[0]) }

// canHave reports whether the codes can be those of one of the coders.
func (c Coding) canHave(codes []int) bool {
	return len(codes) == c.entries() && every(codes, isCode)
}
