package link

import (
	"iter"
	"slices"

	"tithing/age"
	"tithing/api"
)

// desk is a file at work, with the pairs that have been found.
type desk struct {
	File
	moves map[Move]bool
	pairs [api.MaxLinkEntries][api.MaxLinkEntries]bool // by old entries, and then by new ones
}

// demand is something in which an old entry and a new one have to agree.
type demand struct {
	met func(d *desk, old, new Entry) bool
}

func demands() []demand {
	return []demand{{(*desk).sexesAgree}, {(*desk).namesAgree}, {(*desk).placesAgree}, {(*desk).personsAgree}}
}

// read reads a file; its error is the one of the file.
func read(f File) (*desk, api.Errno) {
	if e := CheckFile(f); e != api.OK {
		return nil, e
	}
	d := &desk{File: f, moves: map[Move]bool{}}
	for _, m := range d.Moves {
		d.moves[m] = true
	}
	for o, old := range d.Old {
		for n, new := range d.New {
			d.pairs[o][n] = every(demands(), func(x demand) bool { return x.met(d, old, new) })
		}
	}
	return d, api.OK
}

func (d *desk) sexesAgree(old, new Entry) bool {
	return old.Sex == new.Sex || old.Sex == Unknown || new.Sex == Unknown
}

func (d *desk) namesAgree(old, new Entry) bool {
	return slices.ContainsFunc(old.Names, func(key int) bool { return slices.Contains(new.Names, key) })
}

func (d *desk) placesAgree(old, new Entry) bool {
	return old.Place == new.Place || d.moves[Move{old.Place, new.Place}]
}

func (d *desk) personsAgree(old, new Entry) bool {
	same, e := age.Same(old.Who, new.Who)
	return same && e == api.OK
}

// has reports whether there are both an old entry and a new one of these numbers.
func (d *desk) has(old, new int) bool {
	return 0 <= old && old < len(d.Old) && 0 <= new && new < len(d.New)
}

// isPair reports whether the two entries, which exist, are a pair.
func (d *desk) isPair(p Pair) bool { return d.pairs[p.Old][p.New] }

// partners yields the new entries with which the old one is a pair.
func (d *desk) partners(old int) iter.Seq[int] {
	return func(yield func(int) bool) {
		for new := range len(d.New) {
			if d.pairs[old][new] && !yield(new) {
				return
			}
		}
	}
}

// list returns the pairs that are as asked.
func (d *desk) list(asked func(Pair) bool) []Pair {
	var list []Pair
	for old := range len(d.Old) {
		for new := range d.partners(old) {
			if p := (Pair{old, new}); asked(p) {
				list = append(list, p)
			}
		}
	}
	return list
}

// without returns the file as if the pairs that are as asked were none.
func (d *desk) without(asked func(Pair) bool) *desk {
	rest := *d
	for _, p := range d.list(asked) {
		rest.pairs[p.Old][p.New] = false
	}
	return &rest
}

// isMatching reports whether the list has for each old entry a new one with which it is a pair, or None, and no new entry twice.
func (d *desk) isMatching(links []int) bool {
	if len(links) != len(d.Old) {
		return false
	}
	var taken [api.MaxLinkEntries]bool
	for old, new := range links {
		if new == None {
			continue
		}
		if !d.has(old, new) || !d.isPair(Pair{old, new}) || taken[new] {
			return false
		}
		taken[new] = true
	}
	return true
}

// isCover reports whether both lists rise, and each pair has an entry in them.
func (d *desk) isCover(old, new []int) bool {
	if !rises(old, len(d.Old)-1) || !rises(new, len(d.New)-1) {
		return false
	}
	covered := func(p Pair) bool { return slices.Contains(old, p.Old) || slices.Contains(new, p.New) }
	return every(d.list(d.isPair), covered)
}

// linked returns the size of a matching.
func linked(links []int) int {
	many := 0
	for _, new := range links {
		if new != None {
			many++
		}
	}
	return many
}

// sizes returns how many elements the lists have together.
func sizes(lists ...[]int) int {
	sum := 0
	for _, list := range lists {
		sum += len(list)
	}
	return sum
}
