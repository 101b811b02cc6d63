package name

import (
	"slices"
	"sort"

	"tithing/api"
)

// chart has the costs of any two names of a list.
type chart struct {
	names int
	costs [api.MaxNameList][api.MaxNameList]int
}

// newChart compares each name with those before it, as the cost does not depend on the order.
func newChart(r Rules, list []string) *chart {
	c := &chart{names: len(list)}
	for m, name := range list {
		for n, other := range list[:m] {
			cost := compare(r, name, other).cost()
			c.costs[m][n], c.costs[n][m] = cost, cost
		}
	}
	return c
}

// groups returns the groups by the limit, in the order of their first names.
func (c *chart) groups(limit int) [][]int {
	var list [][]int
	var grouped [api.MaxNameList]bool
	for first := range c.names {
		if grouped[first] {
			continue
		}
		group := c.group(first, limit)
		for _, n := range group {
			grouped[n] = true
		}
		list = append(list, group)
	}
	return list
}

// group returns the group of the name by the limit: all names that chains of linked names lead to.
func (c *chart) group(name, limit int) []int {
	group := []int{name}
	for i := 0; i < len(group); i++ {
		for n, cost := range c.costs[group[i]][:c.names] {
			if cost <= limit && !slices.Contains(group, n) {
				group = append(group, n)
			}
		}
	}
	slices.Sort(group)
	return group
}

// bridge returns the lowest limit by which there is one group. No cost is as high as MaxNameLimit, and with a higher limit there are never more groups, so it can be searched between.
func (c *chart) bridge() int {
	return sort.Search(api.MaxNameLimit, func(limit int) bool { return len(c.groups(limit)) <= 1 })
}

func (c *chart) total(name int) int {
	sum := 0
	for _, cost := range c.costs[name] {
		sum += cost
	}
	return sum
}

// center returns the first name with the minimum total, and this total; there is some name.
func (c *chart) center() (name, total int) {
	total = c.total(name)
	for n := range c.names {
		if sum := c.total(n); sum < total {
			name, total = n, sum
		}
	}
	return name, total
}
