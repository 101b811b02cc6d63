package hide

// direction is one of the two in which values move.
type direction struct {
	room func(t Table, c Cell) int // by how much the cell can move
	step int
}

func up() direction { return direction{Table.above, 1} }

func down() direction { return direction{Table.below, -1} }

func (t Table) above(c Cell) int { return t.Cap - t.value(c) }

func (t Table) below(c Cell) int { return t.value(c) }

// move is a cell that moves.
type move struct {
	Cell
	direction
}

// circle returns moves that keep all sums if they have the same length, and whether there are some: the cell moves ahead, the next one, of its row, back, the next one, of the column of that one, ahead, and so on, and the last one is of the column of the first one.
func (p publication) circle(c Cell, ahead, back direction) (circle []move, some bool) {
	if ahead.room(p.Table, c) == 0 {
		return nil, false
	}
	circle = []move{{c, ahead}}
	visited := map[line]bool{}
	var reach func(from line) bool
	reach = func(from line) bool {
		if from == c.column() {
			return true
		}
		visited[from] = true
		turn := back
		if from.isColumn {
			turn = ahead
		}
		for next := range p.cells(p.hides) {
			to, is := from.across(next)
			if !is || visited[to] || next == c || turn.room(p.Table, next) == 0 {
				continue
			}
			circle = append(circle, move{next, turn})
			if reach(to) {
				return true
			}
			circle = circle[:len(circle)-1]
		}
		return false
	}
	some = reach(c.row())
	return circle, some
}

// moved returns a candidate in which the cell has moved ahead as far as it can. What a circle moves can be moved back by a later one, so none of them has to be chosen well.
func (p publication) moved(c Cell, ahead, back direction) Table {
	p.Rows = p.ownRows()
	for p.hides(c) {
		circle, some := p.circle(c, ahead, back)
		if !some {
			break
		}
		var rooms []int
		for _, m := range circle {
			rooms = append(rooms, m.room(p.Table, m.Cell))
		}
		length := least(rooms[0], rooms[1:]...)
		for _, m := range circle {
			p.Rows[m.Row][m.Column] += m.step * length
		}
	}
	return p.Table
}

// end returns the last value that the cell has in candidates, in the direction ahead.
func (p publication) end(c Cell, ahead, back direction) int { return p.moved(c, ahead, back).value(c) }
