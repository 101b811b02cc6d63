package walk

// end tells which end of a range is meant.
type end struct {
	of func(Range) int
}

func (r Range) low() int { return r.Lo }

func (r Range) high() int { return r.Hi }

// truthAt returns the truth in which everything takes what is at the end of its range.
func (m Map) truthAt(e end) Truth {
	var t Truth
	for _, work := range m.Work {
		t.Work = append(t.Work, e.of(work))
	}
	for _, road := range m.Roads {
		t.Roads = append(t.Roads, e.of(road.Time))
	}
	return t
}

// time returns the time of the walk, which is one of the map, in the truth.
func (m Map) time(w Walk, t Truth) int {
	total := 0
	for _, place := range w.Counts {
		total += t.Work[place]
	}
	for i, place := range w.Route[1:] {
		total += t.Roads[m.roadBetween(w.Route[i], place)]
	}
	return total
}

// bounds: no work and no road takes less time when another one takes more, so that both ends are reached.
func (m Map) bounds(w Walk) Range {
	low, high := end{Range.low}, end{Range.high}
	return Range{Lo: m.time(w, m.truthAt(low)), Hi: m.time(w, m.truthAt(high))}
}

// counted returns for each place how many walks of the plan count it.
func (m Map) counted(plan []Walk) []int {
	times := make([]int, len(m.Work))
	for _, w := range plan {
		for _, place := range w.Counts {
			times[place]++
		}
	}
	return times
}
