package flow

import "tithing/api"

// every reports whether all elements of the list are as asked.
func every[T any](list []T, asked func(T) bool) bool {
	for _, x := range list {
		if !asked(x) {
			return false
		}
	}
	return true
}

// least returns the smallest of numbers.
func least(first int, others ...int) int {
	for _, n := range others {
		first = min(first, n)
	}
	return first
}

// counts are the numbers that can be counted, or born.
func counts() Range { return Range{0, api.MaxFlowCount} }

func (r Range) has(n int) bool { return r.Lo <= n && n <= r.Hi }

// contains reports whether the other one is a range, and within this one.
func (r Range) contains(other Range) bool {
	return r.has(other.Lo) && r.has(other.Hi) && other.Lo <= other.Hi
}

// groups returns how many groups the table has, by its first census.
func (t Table) groups() int {
	if len(t.Counted) == 0 {
		return 0
	}
	return len(t.Counted[0])
}

func (t Table) fits() bool {
	return len(t.Counted) <= api.MaxFlowCensuses && t.groups() <= api.MaxFlowGroups
}

func (t Table) valid() bool {
	isCount, isRate, isNet := counts().contains, Range{0, perRate}.contains, Range{-api.MaxFlowNet, api.MaxFlowNet}.contains
	isCensus := func(row []Range) bool { return len(row) == t.groups() && every(row, isCount) }
	return t.groups() >= 2 && every(t.Counted, isCensus) &&
		len(t.Births) == len(t.Counted)-1 && every(t.Births, isCount) &&
		len(t.Rates) == t.groups()+1 && every(t.Rates, isRate) &&
		len(t.Net) == t.groups() && every(t.Net, isNet)
}

// holds reports whether the truth is one of the table, which is valid. Numbers of dead are not asked: whatever they are, it has sizes.
func (t Table) holds(x Truth) bool {
	isDead := func(row []int) bool { return len(row) == len(t.Rates) }
	isMoved := func(row []int) bool { return allIn(t.Net, row) }
	return len(x.First) == t.groups() && every(x.First, counts().has) && allIn(t.Births, x.Births) &&
		len(x.Dead) == len(t.Births) && every(x.Dead, isDead) &&
		len(x.Moved) == len(t.Births) && every(x.Moved, isMoved)
}

// allIn reports whether there are as many numbers as ranges, and each is in the range of its index.
func allIn(ranges []Range, numbers []int) bool {
	if len(ranges) != len(numbers) {
		return false
	}
	for i, r := range ranges {
		if !r.has(numbers[i]) {
			return false
		}
	}
	return true
}

// read reads a table; its error is the one of the table.
func read(t Table) (ledger, api.Errno) {
	if e := CheckTable(t); e != api.OK {
		return ledger{}, e
	}
	return work(t), api.OK
}
