package book

import (
	"cmp"
	"slices"

	"tithing/api"
	"tithing/hide"
	"tithing/seat"
	"tithing/sheet"
)

// change is a state being changed by a line, in memory of its own.
type change struct{ State }

// refusal is the panic of a line that is refused.
type refusal struct{ with api.Errno }

func refuseIf(is bool, with api.Errno) {
	if is {
		panic(refusal{with})
	}
}

// settle refuses a change by which the census has something out of its range, or is not consistent.
func (c *change) settle() {
	refuseIf(sheet.CheckCensus(c.census()) != api.OK, api.ErrRange)
	_, _, e := sheet.Persons(c.census())
	refuseIf(e != api.OK, api.ErrFail)
}

func (c *change) entry(n []int) {
	one := sheet.Entry{Schedule: n[0], Sex: n[1], Key: n[2], Ages: sheet.Range{Lo: n[3], Hi: n[4]}}
	alone := sheet.Census{Entries: []sheet.Entry{one}}
	refuseIf(sheet.CheckCensus(alone) != api.OK, api.ErrRange)
	refuseIf(len(c.Entries) == api.MaxSheetEntries, api.ErrLimit)
	c.Entries = append(c.Entries, one)
	c.settle()
}

func (c *change) drop(n []int) {
	gone := n[0]
	refuseIf(!c.isEntry(gone), api.ErrNone)
	c.Entries = slices.Concat(c.Entries[:gone], c.Entries[gone+1:])
	c.Same, c.Apart = without(c.Same, gone), without(c.Apart, gone)
	c.settle()
}

// without returns the pairs that are left when the entry is gone, with the numbers that their entries have then.
func without(pairs []sheet.Pair, gone int) []sheet.Pair {
	number := func(n int) int {
		if n > gone {
			return n - 1
		}
		return n
	}
	var left []sheet.Pair
	for _, p := range pairs {
		if p.First != gone && p.Second != gone {
			left = append(left, sheet.Pair{First: number(p.First), Second: number(p.Second)})
		}
	}
	return left
}

func (c *change) age(n []int) {
	refuseIf(!c.isEntry(n[0]), api.ErrNone)
	c.Entries[n[0]].Ages = sheet.Range{Lo: n[1], Hi: n[2]}
	c.settle()
}

func (c *change) same(n []int) {
	c.Same = c.paired(c.Same, n)
	c.settle()
}

func (c *change) apart(n []int) {
	c.Apart = c.paired(c.Apart, n)
	c.settle()
}

// paired returns the list, which is Same or Apart, with one pair more.
func (c *change) paired(list []sheet.Pair, n []int) []sheet.Pair {
	p, turned := sheet.Pair{First: n[0], Second: n[1]}, sheet.Pair{First: n[1], Second: n[0]}
	isOther := func(other sheet.Pair) bool { return other != p && other != turned }
	refuseIf(!c.isEntry(p.First) || !c.isEntry(p.Second), api.ErrNone)
	refuseIf(p == turned || !every(c.Same, isOther) || !every(c.Apart, isOther), api.ErrTwice)
	refuseIf(len(list) == api.MaxSheetPairs, api.ErrLimit)
	return append(list, p)
}

func (c *change) omitted(n []int) {
	c.Omitted = sheet.Range{Lo: n[0], Hi: n[1]}
	c.settle()
}

func (c *change) number(n []int) {
	c.Number = sheet.Range{Lo: n[0], Hi: n[1]}
	c.settle()
}

func byOrder(a, b hide.Cell) int {
	return cmp.Or(cmp.Compare(a.Row, b.Row), cmp.Compare(a.Column, b.Column))
}

func (c *change) hide(n []int) {
	cell := hide.Cell{Row: n[0], Column: n[1]}
	refuseIf(!isCell(cell), api.ErrNone)
	at, isHidden := slices.BinarySearchFunc(c.Hidden, cell, byOrder)
	refuseIf(isHidden, api.ErrTwice)
	c.Hidden = slices.Insert(c.Hidden, at, cell)
}

func (c *change) show(n []int) {
	at := slices.Index(c.Hidden, hide.Cell{Row: n[0], Column: n[1]})
	refuseIf(at < 0, api.ErrNone)
	c.Hidden = slices.Concat(c.Hidden[:at], c.Hidden[at+1:])
}

func (c *change) ask(n []int) {
	one := hide.Request{Cell: hide.Cell{Row: n[0], Column: n[1]}, Below: n[2], Above: n[3]}
	refuseIf(!isCell(one.Cell), api.ErrNone)
	_, e := hide.Exposed(c.table(), nil, []hide.Request{one})
	refuseIf(e == api.ErrRange, api.ErrRange)
	refuseIf(len(c.Requests) == api.MaxHideRequests, api.ErrLimit)
	c.Requests = append(c.Requests, one)
}

func (c *change) publish([]int) {
	best, e := hide.Hide(c.table(), c.Hidden, c.Requests)
	refuseIf(e != api.OK, api.ErrSecret)
	c.Hidden = best
}

func (c *change) rule(n []int) {
	r := seat.Rule{Method: uint8(n[0]), Seats: n[1], Least: n[2]}
	// A number that is no uint8 would be taken for another method.
	refuseIf(int(r.Method) != n[0] || seat.CheckRule(r) != api.OK, api.ErrRange)
	c.Rule = r
}
