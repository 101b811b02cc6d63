package link

import (
	"tithing/age"
	"tithing/api"
)

// bounds has the greatest numbers that an entry can have.
type bounds struct{ sex, key, place int }

func limits() bounds {
	return bounds{api.MaxLinkSex, api.MaxLinkKey, api.MaxLinkPlace}
}

// every reports whether all elements of the list are as asked.
func every[T any](list []T, asked func(T) bool) bool {
	for _, x := range list {
		if !asked(x) {
			return false
		}
	}
	return true
}

// rises reports whether the list is in increasing order, from 0 to at most the number.
func rises(list []int, most int) bool {
	before := -1
	for _, n := range list {
		if n <= before || n > most {
			return false
		}
		before = n
	}
	return true
}

// fits reports whether no list of the file is too long; the persons are not asked.
func (f File) fits() bool {
	return len(f.Old) <= api.MaxLinkEntries && len(f.New) <= api.MaxLinkEntries && len(f.Moves) <= api.MaxLinkMoves && every(f.Old, Entry.fits) && every(f.New, Entry.fits)
}

func (e Entry) fits() bool { return len(e.Names) <= api.MaxLinkNames }

// firstError returns the error of the first person that has one, list by list, or OK.
func firstError(lists ...[]Entry) api.Errno {
	for _, list := range lists {
		for _, entry := range list {
			if e := age.CheckPerson(entry.Who); e != api.OK {
				return e
			}
		}
	}
	return api.OK
}

// valid reports whether the file, whose lists are not too long, is valid; the persons are not asked.
func (f File) valid() bool {
	isEntry := limits().allow
	return every(f.Old, isEntry) && every(f.New, isEntry) && every(f.Moves, limits().allowMove)
}

func (b bounds) allow(e Entry) bool {
	return 0 <= e.Sex && e.Sex <= b.sex && len(e.Names) > 0 && rises(e.Names, b.key) && b.hasPlace(e.Place)
}

func (b bounds) allowMove(m Move) bool { return b.hasPlace(m.From) && b.hasPlace(m.To) }

func (b bounds) hasPlace(place int) bool { return 0 <= place && place <= b.place }
