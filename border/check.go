package border

import "tithing/api"

// every reports whether all elements of the list are as asked.
func every[T any](list []T, asked func(T) bool) bool {
	for _, x := range list {
		if !asked(x) {
			return false
		}
	}
	return true
}

func allCounts() Range { return Range{0, api.MaxBorderCount} }

func allWeights() Range { return Range{0, api.MaxBorderWeight} }

// allSizes are the numbers that the size of a new district can be limited to.
func allSizes() Range { return Range{0, api.MaxBorderTotal} }

// allDistricts are the numbers of old or new districts that a map can have.
func allDistricts() Range { return Range{1, api.MaxBorderDistricts} }

func (m Map) hasOld(district int) bool { return 0 <= district && district < len(m.Old) }

func (m Map) hasNew(district int) bool { return 0 <= district && district < m.New }

func (m Map) hasStreet(street int) bool { return 0 <= street && street < len(m.Streets) }

func (m Map) fits() bool {
	return len(m.Old) <= api.MaxBorderDistricts && len(m.Streets) <= api.MaxBorderStreets && len(m.Joins) <= api.MaxBorderJoins
}

// valid reports whether the map is valid, if it fits.
func (m Map) valid() bool {
	return allDistricts().has(len(m.Old)) && every(m.Old, allCounts().has) && allDistricts().has(m.New) &&
		len(m.Streets) > 0 && every(m.Streets, m.allowsStreet) && every(m.Joins, m.allowsJoin) && m.canDivide()
}

func (m Map) allowsStreet(s Street) bool {
	return m.hasOld(s.Old) && m.hasNew(s.New) && allWeights().has(s.Weight) && s.People.within(allCounts())
}

func (m Map) allowsJoin(j Join) bool {
	isStreet := m.hasStreet
	return isStreet(j.A) && isStreet(j.B) && j.A != j.B
}

// canDivide reports whether each old district has a street with a weight, so that its count can be divided.
func (m Map) canDivide() bool {
	var weights [api.MaxBorderDistricts]int
	for _, s := range m.Streets {
		weights[s.Old] += s.Weight
	}
	return every(weights[:len(m.Old)], func(n int) bool { return n > 0 })
}

// areBorders reports whether the list has a new district for each street.
func (m Map) areBorders(list []int) bool {
	return len(list) == len(m.Streets) && every(list, m.hasNew)
}
