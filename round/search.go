package round

import "tithing/api"

// stage is where roundings are continued: at a row, with what the columns have got so far. What can follow depends on nothing else.
type stage struct {
	row int
	got sums
}

// rest has what can follow a stage: in how many ways, and the best one of them.
type rest struct {
	ways, change int
	best         [][]int
}

// add adds what can follow the numbers of a row, which are so far from its cells. Of equal changes the first one that is added stays.
func (r rest) add(numbers []int, far int, after rest) rest {
	if change := far + after.change; r.ways == 0 || change < r.change {
		r.change = change
		r.best = append([][]int{numbers}, after.best...)
	}
	r.ways += after.ways
	return r
}

// search returns all that can follow the beginning of the table, and the ranges of all cells; its error is the one of the table.
func search(t Table) (all rest, span [][]Range, e api.Errno) {
	if e := CheckTable(t); e != api.OK {
		return rest{}, nil, e
	}
	all, span = work(t).roundings()
	return all, span, api.OK
}

// roundings returns the number of roundings, the best one, and the ranges of all cells in them, if there is one.
func (b board) roundings() (all rest, span [][]Range) {
	span = b.emptyRanges()
	known := map[stage]rest{}
	var follow func(s stage) rest
	follow = func(s stage) rest {
		if s.row == len(b.Cells) {
			return b.end(s)
		}
		if all, is := known[s]; is {
			return all
		}
		var all rest
		for numbers := range b.choices(s.row) {
			after := follow(stage{s.row + 1, s.got.plus(numbers)})
			if after.ways > 0 {
				all = all.add(numbers, distance(b.Cells[s.row], numbers), after)
				widen(span[s.row], numbers)
			}
		}
		known[s] = all
		return all
	}
	return follow(stage{}), span
}

// end returns the rest after the last row: nothing, in one way or in none.
func (b board) end(s stage) rest {
	if !b.allowsSums(s.got) {
		return rest{}
	}
	return rest{ways: 1}
}

// emptyRanges returns ranges that any neighbour widens to have it alone.
func (b board) emptyRanges() [][]Range {
	var ranges [][]Range
	for _, row := range b.Cells {
		var list []Range
		for _, n := range row {
			list = append(list, Range{b.above(n), b.below(n)})
		}
		ranges = append(ranges, list)
	}
	return ranges
}

// widen widens the ranges so that they have the numbers.
func widen(ranges []Range, numbers []int) {
	for i, n := range numbers {
		ranges[i] = Range{least(ranges[i].Lo, n), max(ranges[i].Hi, n)}
	}
}
