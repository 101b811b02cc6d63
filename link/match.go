package link

import "tithing/api"

// matching has for each new entry the old one with which it is linked, or None.
type matching [api.MaxLinkEntries]int

func noLinks() matching {
	var m matching
	for new := range m {
		m[new] = None
	}
	return m
}

// largest returns a largest matching.
func (d *desk) largest() matching {
	m := noLinks()
	for first := range d.Old {
		var tried [api.MaxLinkEntries]bool
		// improve links the old entry, for which other old ones may get new partners, and reports whether this can be done.
		var improve func(old int) bool
		improve = func(old int) bool {
			for new := range d.partners(old) {
				if tried[new] {
					continue
				}
				tried[new] = true
				if m[new] == None || improve(m[new]) {
					m[new] = old
					return true
				}
			}
			return false
		}
		improve(first)
	}
	return m
}

// byOld returns for each old entry the new one with which the matching links it, or None.
func (d *desk) byOld(m matching) []int {
	var links []int
	for range d.Old {
		links = append(links, None)
	}
	for new, old := range m {
		if old != None {
			links[old] = new
		}
	}
	return links
}

// most returns the size of a largest matching.
func (d *desk) most() int { return linked(d.byOld(d.largest())) }

// needs reports whether no matching without the pairs that are as asked is a largest one.
func (d *desk) needs(asked func(Pair) bool) bool { return d.without(asked).most() < d.most() }

func (d *desk) isSure(p Pair) bool {
	return d.needs(func(other Pair) bool { return other == p })
}

func (d *desk) isPossible(p Pair) bool { return d.cost(p) == 0 }

// cost returns the cost of the pair: with it, the other pairs of its entries cannot be.
func (d *desk) cost(p Pair) int {
	shares := func(other Pair) bool { return other.Old == p.Old || other.New == p.New }
	return d.most() - (d.without(shares).most() + 1)
}

// hasSecond reports whether there is another largest matching: it would lack some pair of this one.
func (d *desk) hasSecond(m matching) bool {
	second := false
search:
	for new, old := range m {
		if old != None && !d.isSure(Pair{old, new}) {
			second = true
			break search
		}
	}
	return second
}

// cover returns a cover of the size of a largest matching: from the old entries without a partner chains of pairs, of which each second one is linked, lead to some entries; the cover has these new entries, and all other old ones.
func (d *desk) cover() (old, new []int) {
	m := d.largest()
	var reachedOld, reachedNew [api.MaxLinkEntries]bool
	var reach func(o int)
	reach = func(o int) {
		reachedOld[o] = true
		for n := range d.partners(o) {
			reachedNew[n] = true
			// As the matching is a largest one, each new entry that is reached is linked.
			if next := m[n]; !reachedOld[next] {
				reach(next)
			}
		}
	}
	for o, n := range d.byOld(m) {
		if n == None {
			reach(o)
		}
	}
	for o := range d.Old {
		if !reachedOld[o] {
			old = append(old, o)
		}
	}
	for n := range d.New {
		if reachedNew[n] {
			new = append(new, n)
		}
	}
	return old, new
}
