package flow

import (
	"iter"
	"math"
	"slices"

	"tithing/api"
)

// born is the group of those who are born before the next census: the one before the youngest, which they become.
const born = -1

// unused tells of which cells the counts are not used.
type unused [api.MaxFlowCensuses][api.MaxFlowGroups]bool

// survival has both ends of how many of so many persons survive by a rate.
type survival struct {
	fewest, most func(rate Range, persons int) int
}

// ledger is a table at work. Who is in a cell is in a single one at the next census, and all that a size can be is a range: so the ranges are carried from census to census, and back.
type ledger struct {
	Table
	unused
	alive survival
}

func work(t Table) ledger {
	return ledger{Table: t, alive: survival{Range.fewest, Range.most}}
}

// cells yields all cells, in their order.
func (l ledger) cells() iter.Seq[Cell] {
	return func(yield func(Cell) bool) {
		for census := range len(l.Counted) {
			for group := range l.groups() {
				if !yield(Cell{census, group}) {
					return
				}
			}
		}
	}
}

// leave leaves the count of the cell out, or takes it in again.
func (l *ledger) leave(c Cell, out bool) { l.unused[c.Census][c.Group] = out }

func (l ledger) withoutCounts() ledger {
	for c := range l.cells() {
		l.leave(c, true)
	}
	return l
}

// counted returns the sizes that the count of the cell allows.
func (l ledger) counted(c Cell) Range {
	if l.unused[c.Census][c.Group] {
		return anySize()
	}
	return l.Counted[c.Census][c.Group]
}

func anySize() Range { return Range{0, math.MaxInt} }

// sources are the cells whose persons are in this one at its census; at the first census there are none.
func (l ledger) sources(c Cell) []Cell {
	if c.Census == 0 {
		return nil
	}
	list := []Cell{{c.Census - 1, c.Group - 1}}
	if c.Group == l.groups()-1 {
		list = append(list, Cell{c.Census - 1, c.Group})
	}
	return list
}

// rate is that of the persons of the cell, until the next census.
func (l ledger) rate(c Cell) Range { return l.Rates[c.Group+1] }

// survivors returns how many of those in the cell survive.
func (l ledger) survivors(c Cell, sizes map[Cell]Range) Range {
	return Range{l.alive.fewest(l.rate(c), sizes[c].Lo), l.alive.most(l.rate(c), sizes[c].Hi)}
}

// carried returns the sizes that the cell can have by those at the census before.
func (l ledger) carried(c Cell, sizes map[Cell]Range) Range {
	if c.Census == 0 {
		return counts()
	}
	total := l.Net[c.Group]
	for _, source := range l.sources(c) {
		part := l.survivors(source, sizes)
		total.Lo += part.Lo
		total.Hi += part.Hi
	}
	return total
}

// births returns the sizes of the cells of those who are born.
func (l ledger) births() map[Cell]Range {
	sizes := map[Cell]Range{}
	for census, births := range l.Births {
		sizes[Cell{census, born}] = births
	}
	return sizes
}

// enter enters the sizes that the cell can have by its count, and by those at the census before; it reports whether there are some.
func (l ledger) enter(c Cell, sizes map[Cell]Range) bool {
	sizes[c] = common(l.carried(c, sizes), l.counted(c))
	return !sizes[c].empty()
}

func common(a, b Range) Range { return Range{max(a.Lo, b.Lo), min(a.Hi, b.Hi)} }

func (r Range) empty() bool { return r.Lo > r.Hi }

// forward returns the sizes that each cell can have by the counts up to its census, and whether each has some.
func (l ledger) forward() (sizes map[Cell]Range, some bool) {
	sizes = l.births()
	for c := range l.cells() {
		if !l.enter(c, sizes) {
			return nil, false
		}
	}
	return sizes, true
}

// agrees reports whether the counts that are used agree.
func (l ledger) agrees() bool {
	_, some := l.forward()
	return some
}

// bounds returns the bounds of all cells, and whether the counts that are used agree.
func (l ledger) bounds() (sizes map[Cell]Range, agree bool) {
	sizes, agree = l.forward()
	if !agree {
		return nil, false
	}
	for _, c := range slices.Backward(slices.Collect(l.cells())) {
		for _, source := range l.sources(c) {
			sizes[source] = l.narrowed(source, c, sizes)
		}
	}
	return sizes, true
}

// narrowed returns the sizes of the source from which the cell can get one of its own. There are some, as each size of the cell was carried to it.
func (l ledger) narrowed(source, c Cell, sizes map[Cell]Range) Range {
	part, total := l.survivors(source, sizes), l.carried(c, sizes)
	fewest := sizes[c].Lo - (total.Hi - part.Hi)
	most := sizes[c].Hi - (total.Lo - part.Lo)
	r := sizes[source]
	for l.alive.most(l.rate(source), r.Lo) < fewest {
		r.Lo++
	}
	for l.alive.fewest(l.rate(source), r.Hi) > most {
		r.Hi--
	}
	return r
}

// further returns the sizes of all groups at one further census, and whether each can have some. No cell is the source of two, so that the sizes of one group do not depend on those of another.
func (l ledger) further(births Range) (row []Range, some bool) {
	sizes, agree := l.forward()
	if !agree {
		return nil, false
	}
	last := len(l.Counted) - 1
	sizes[Cell{last, born}] = births
	for group := range l.groups() {
		r := common(l.carried(Cell{last + 1, group}, sizes), anySize())
		if r.empty() {
			return nil, false
		}
		row = append(row, r)
	}
	return row, true
}

// smallest returns the smallest set; without any counts some truth can be.
func (l ledger) smallest() (found []Cell) {
search:
	for many := range len(l.Counted)*l.groups() + 1 {
		for list := range l.outs(many) {
			found = list
			break search
		}
	}
	return found
}

// outs yields the lists of so many cells that can be left out, in the order of their cells. Cell by cell its count is left out or used, and a size that can not be ends the search at once.
func (l ledger) outs(many int) iter.Seq[[]Cell] {
	return func(yield func([]Cell) bool) {
		sizes := l.births()
		var choose func(cells, list []Cell) bool
		choose = func(cells, list []Cell) bool {
			if len(cells) == 0 {
				return len(list) < many || yield(slices.Clone(list))
			}
			c, rest := cells[0], cells[1:]
			if len(list) < many {
				l.leave(c, true)
				goesOn := !l.enter(c, sizes) || choose(rest, append(list, c))
				l.leave(c, false)
				if !goesOn {
					return false
				}
			}
			return !l.enter(c, sizes) || choose(rest, list)
		}
		choose(slices.Collect(l.cells()), nil)
	}
}
