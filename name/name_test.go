package name_test

import (
	"math"
	"slices"
	"testing"

	"tithing/api"
	"tithing/name"
)

func checkCost(t *testing.T, r name.Rules, a, b string, want int) {
	t.Helper()
	if n, e := name.Cost(r, a, b); n != want || e != api.OK {
		t.Errorf("Cost of %q and %q by %v: %d, %v, not %d", a, b, r, n, e, want)
	}
}

// P4.1: the chapter's examples, and one of each kind of steps.
func TestCost(t *testing.T) {
	for _, x := range []struct {
		r    name.Rules
		a, b string
		want int
	}{
		{clerks(), "KATE", "CADE", 2}, {clerks(), "MARY", "MARIE", 3}, {clerks(), "BOB", "BOBB", 1},
		{clerks(), "KATE", "KATY", 2}, {clerks(), "KATE", "MARY", 10}, {clerks(), "KATY", "MARY", 8},
		// Letters that sound alike, or do not.
		{clerks(), "B", "P", 1}, {clerks(), "Q", "C", 1}, {clerks(), "B", "D", 4}, {clerks(), "M", "R", 4}, {clerks(), "T", "T", 0},
		{strict(), "M", "N", 9}, {strict(), "M", "B", 5}, {strict(), "B", "C", 5},
		// A letter that is not soft, a soft one, and a second one.
		{clerks(), "A", "KA", 3}, {clerks(), "ANN", "ANNA", 1}, {clerks(), "ANA", "ANNA", 1}, {clerks(), "AAA", "A", 2}, {clerks(), "A", "AR", 3},
		{dear(), "B", "BB", 2}, {dear(), "BAB", "BAAB", 2}, {dear(), "BB", "BAB", 7}, {dear(), "R", "RB", 10},
		// The letter before counts, not one that sounds alike, and not the last one that was in a step.
		{dear(), "R", "RBP", 20}, {dear(), "RR", "RAR", 7},
		// If the second letter is dear, the first one is skipped; the third one cannot be spared.
		{strict(), "BA", "BAA", 6}, {strict(), "B", "BB", 4}, {strict(), "BC", "BBC", 4}, {strict(), "A", "AAA", 106},
		// It may be cheaper to skip both letters.
		{dear(), "B", "P", 20}, {dear(), "I", "Y", 14}, {dear(), "M", "RR", 22}, {dear(), "MRM", "MM", 10},
		// The letters with the lowest cost are not those that are first.
		{clerks(), "ABCDEFGHIJKL", "BCDEFGHIJKLM", 4}, {clerks(), "ABCDEFGHIJKL", "ABCDEFGHIJKL", 0},
		{name.Rules{Other: 100, Skip: 100}, "AAAAAAAAAAAA", "B", 200 - 100},
		{name.Rules{Other: 100, Skip: 100, Double: 100}, "AAAAAAAAAAAA", "BBBBBBBBBBBB", 1200},
		{name.Rules{}, "A", "BCZ", 0},
	} {
		checkCost(t, x.r, x.a, x.b, x.want)
		checkCost(t, x.r, x.b, x.a, x.want)
	}
}

// P4.1, P4.8: the cost is that of the cheapest of all alignments.
func TestCostOfAll(t *testing.T) {
	skipped, replaced := 0, 0
	forRules(t, func(t *testing.T, d *dice, r name.Rules) {
		for range 4 {
			a, b := d.throwName(5), d.throwName(5)
			if d.upTo(1) == 0 {
				b = d.throwNear(a)
			}
			want := cheapest(r, a, b)
			checkCost(t, r, a, b, want)
			l, e := name.Align(r, a, b)
			if !isAlignment(a, b, l) || e != api.OK || costOf(r, a, b, l) != want {
				t.Errorf("Align of %q and %q by %v: %v, %v", a, b, r, l, e)
			}
			if len(l) > max(len(a), len(b)) {
				skipped++
			} else if want > 0 {
				replaced++
			}
		}
	})
	if skipped < 50 || replaced < 50 {
		t.Errorf("only %d alignments skip, and %d replace", skipped, replaced)
	}
}

// P4.2: the alignment has the cost of the names, and is proved for it, but not for less.
func TestAlign(t *testing.T) {
	if l, e := name.Align(clerks(), "KATE", "CADE"); !slices.Equal(l, steps(step(0, 0), step(1, 1), step(2, 2), step(3, 3))) || e != api.OK {
		t.Errorf("Align: %v, %v", l, e)
	}
	if l, e := name.Align(clerks(), "BOX", "BOOX"); !isAlignment("BOX", "BOOX", l) || !slices.Contains(l, step(-1, 2)) || len(l) != 4 || e != api.OK {
		t.Errorf("Align: %v, %v", l, e)
	}
	forRules(t, func(t *testing.T, d *dice, r name.Rules) {
		for range 3 {
			a, b := d.throwName(12), d.throwName(12)
			if d.upTo(1) == 0 {
				b = d.throwNear(a)
			}
			n := cost(t, r, a, b)
			l, e := name.Align(r, a, b)
			if !isAlignment(a, b, l) || e != api.OK || costOf(r, a, b, l) != n {
				t.Errorf("Align of %q and %q by %v: %v, %v; Cost: %d", a, b, r, l, e, n)
			}
			if !name.ProveAlign(r, a, b, l, n) || name.ProveAlign(r, a, b, l, n-1) {
				t.Errorf("ProveAlign of %q and %q by %v: %v for %d", a, b, r, l, n)
			}
		}
	})
}

// checkProof asks ProveAlign for numbers around the cost of the steps, and others.
func checkProof(t *testing.T, r name.Rules, a, b string, l []name.Step) {
	t.Helper()
	is, sum := isAlignment(a, b, l), 0
	if is {
		sum = costOf(r, a, b, l)
	}
	for _, n := range list(sum-1, sum, sum+1, math.MinInt, -1, math.MaxInt) {
		if name.ProveAlign(r, a, b, l, n) != (is && sum <= n) {
			t.Errorf("ProveAlign of %q and %q by %v: %v for %d should be %v", a, b, r, l, n, is && sum <= n)
		}
	}
}

// P4.2: of all short lists of steps just the alignments are proved.
func TestProveAlign(t *testing.T) {
	var all []name.Step
	for a := -2; a <= 2; a++ {
		for b := -2; b <= 2; b++ {
			all = append(all, step(a, b))
		}
	}
	proved := 0
	var follow func(a, b string, l []name.Step)
	follow = func(a, b string, l []name.Step) {
		checkProof(t, clerks(), a, b, l)
		if isAlignment(a, b, l) {
			proved++
		}
		for _, s := range all {
			if len(l) < 3 {
				follow(a, b, append(slices.Clone(l), s))
			}
		}
	}
	for _, x := range [][2]string{{"B", "P"}, {"AA", "M"}, {"R", "RR"}, {"BA", "AB"}} {
		follow(x[0], x[1], nil)
	}
	// The numbers of alignments with at most 3 steps: 3, 5 and 5 are all of them, 1 and 6 those of 2 and of 3 steps.
	if proved != 3+5+5+1+6 {
		t.Errorf("%d lists are proved", proved)
	}
}

// P4.2: alignments that were changed in one place.
func TestChangedAlignments(t *testing.T) {
	proved, refused := 0, 0
	forRules(t, func(t *testing.T, d *dice, r name.Rules) {
		for range 20 {
			a, b := d.throwName(12), d.throwName(12)
			l := d.throwAlignment(a, b)
			checkProof(t, r, a, b, l)
			i := d.upTo(len(l) - 1)
			switch d.upTo(5) {
			case 0:
				l = slices.Delete(l, i, i+1)
			case 1:
				l = slices.Insert(l, i, l[d.upTo(len(l)-1)])
			case 2:
				l[i].A += d.from(-2, 2)
			case 3:
				l[i].B = d.wild()
			case 4:
				l = slices.Insert(l, i, step(-1, -1))
			default:
				j := d.upTo(len(l) - 1)
				l[i], l[j] = l[j], l[i]
			}
			checkProof(t, r, a, b, l)
			if isAlignment(a, b, l) {
				proved++
			} else {
				refused++
			}
		}
	})
	if proved < 100 || refused < 100 {
		t.Errorf("only %d lists are proved, and %d refused", proved, refused)
	}
}

// P4.3: the chapter's examples, and all parts of the definition.
func TestKey(t *testing.T) {
	for _, x := range []struct {
		r          name.Rules
		name, want string
	}{
		{clerks(), "KATE", "CD"}, {clerks(), "CADE", "CD"}, {clerks(), "ABBA", "AB"}, {clerks(), "BAB", "B"},
		{clerks(), "A", "A"}, {clerks(), "Q", "C"}, {clerks(), "P", "B"}, {clerks(), "M", "M"}, {clerks(), "Z", "Z"},
		{clerks(), "AAA", "A"}, {clerks(), "AEIOUY", "A"}, {clerks(), "YMCA", "YMC"}, {clerks(), "BPPB", "B"}, {clerks(), "BABABA", "B"}, {clerks(), "TOTT", "D"}, {clerks(), "BMB", "BMB"},
		// Six letters, and more of them.
		{clerks(), "MNRSLF", "MNRSLF"}, {clerks(), "MNRSLFG", "MNRSLF"}, {clerks(), "MMNRSLFF", "MNRSLF"}, {clerks(), "MANARASALAFG", "MNRSLF"}, {clerks(), "AMNRSLFG", "AMNRSL"},
		// A soft letter with a class is one that is left out, unless it is the first one; its representative is the first letter of the class.
		{dear(), "IRIS", "YRS"}, {dear(), "YRYS", "YRS"}, {dear(), "BIRD", "PRD"}, {dear(), "BEER", "PER"}, {dear(), "ARIA", "AR"}, {dear(), "III", "Y"},
		{strict(), "NAME", "ME"}, {strict(), "EMMA", "E"},
		{name.Rules{}, "AAABBA", "ABA"}, {name.Rules{Soft: "A"}, "BBAB", "B"}, {name.Rules{Classes: names("ZYX", "CBA")}, "ABCXYZ", "CZ"},
	} {
		if key := keyAs(t, x.r, x.name); key != x.want {
			t.Errorf("Key of %q by %v: %q, not %q", x.name, x.r, key, x.want)
		}
	}
	long := 0
	forRules(t, func(t *testing.T, d *dice, r name.Rules) {
		for range 20 {
			s := d.throwName(12)
			key := keyAs(t, r, s)
			if want := keyOf(r, s); key != want {
				t.Errorf("Key of %q by %v: %q, not %q", s, r, key, want)
			}
			if len(key) == 6 {
				long++
			}
		}
	})
	if long < 100 {
		t.Errorf("only %d keys are long", long)
	}
}

func checkNear(t *testing.T, r name.Rules, l []string, s string, limit int, want []int) {
	t.Helper()
	if near, e := name.Near(r, l, s, limit); !slices.Equal(near, want) || e != api.OK {
		t.Errorf("Near %q of %v by %v, %d: %v, %v, not %v", s, l, r, limit, near, e, want)
	}
}

// P4.4: the chapter's examples, and some more.
func TestNear(t *testing.T) {
	for _, x := range []struct {
		name  string
		limit int
		want  []int
	}{
		{"KATE", 2, list(0, 1, 3)}, {"KATE", 1, list(0)}, {"KATE", 0, list(0)}, {"KATE", 9, list(0, 1, 3)}, {"KATE", 10, list(0, 1, 3, 2)}, {"KATE", 5000, list(0, 1, 3, 2)},
		{"KATY", 2, list(3, 0)}, {"KATY", 7, list(3, 0, 1)}, {"KATY", 8, list(3, 0, 1, 2)}, {"MARIE", 3, list(2)}, {"MARIE", 2, nil}, {"Z", 0, nil},
	} {
		checkNear(t, clerks(), four(), x.name, x.limit, x.want)
	}
	checkNear(t, clerks(), names("B", "P", "B", "P", "BB", "M"), "P", 4, list(1, 3, 0, 2, 4, 5))
	checkNear(t, clerks(), slices.Repeat(names("KATE"), 12), "CADE", 2, list(0, 1, 2, 3, 4, 5, 6, 7, 8, 9, 10, 11))
}

// P4.4: all names that cost at most the limit, in their order.
func TestNearOfAll(t *testing.T) {
	ties := 0
	forRules(t, func(t *testing.T, d *dice, r name.Rules) {
		l, s := d.throwList(12), d.throwName(12)
		if len(l) > 0 && d.upTo(2) > 0 {
			s = d.throwNear(l[d.upTo(len(l)-1)])
		}
		var costs []int
		for _, other := range l {
			costs = append(costs, cost(t, r, s, other))
		}
		for _, limit := range list(0, d.upTo(10), d.upTo(100), d.upTo(2000)) {
			var want []int
			for price := range limit + 1 {
				before := len(want)
				for n := range l {
					if costs[n] == price {
						want = append(want, n)
					}
				}
				if len(want) > before+1 {
					ties++
				}
			}
			checkNear(t, r, l, s, limit, want)
		}
	})
	if ties < 50 {
		t.Errorf("only %d costs are those of several names", ties)
	}
}

func checkGroups(t *testing.T, r name.Rules, l []string, limit int, want [][]int) {
	t.Helper()
	if g, e := name.Groups(r, l, limit); !sameLists(g, want) || e != api.OK {
		t.Errorf("Groups of %v by %v, %d: %v, %v, not %v", l, r, limit, g, e, want)
	}
}

func checkBridge(t *testing.T, r name.Rules, l []string, want int) {
	t.Helper()
	if n, e := name.Bridge(r, l); n != want || e != api.OK {
		t.Errorf("Bridge of %v by %v: %d, %v, not %d", l, r, n, e, want)
	}
}

// P4.5: the chapter's examples, and some more.
func TestGroups(t *testing.T) {
	for _, x := range []struct {
		list  []string
		limit int
		want  [][]int
	}{
		{four(), 2, lists(list(0, 1, 3), list(2))}, {four(), 1, lists(list(0), list(1), list(2), list(3))}, {four(), 0, lists(list(0), list(1), list(2), list(3))},
		{four(), 7, lists(list(0, 1, 3), list(2))}, {four(), 8, lists(list(0, 1, 2, 3))}, {four(), 5000, lists(list(0, 1, 2, 3))},
		{names("MARY", "KATE", "MARY", "CADE"), 2, lists(list(0, 2), list(1, 3))}, {names("MARY", "KATE", "MARY", "CADE"), 0, lists(list(0, 2), list(1), list(3))},
		// A chain whose ends are far from each other, and which a later name connects.
		{names("M", "MAI", "R", "MA"), 1, lists(list(0, 1, 3), list(2))}, {names("MAI", "R", "M", "RA", "MA"), 1, lists(list(0, 2, 4), list(1, 3))},
		{names("BOB"), 0, lists(list(0))}, {nil, 0, nil}, {[]string{}, 5000, nil},
	} {
		checkGroups(t, clerks(), x.list, x.limit, x.want)
	}
}

// P4.5: the chapter's example, and some more.
func TestBridge(t *testing.T) {
	for _, x := range []struct {
		list []string
		want int
	}{
		{four(), 8}, {names("BOB"), 0}, {names("BOB", "BOB", "BOB"), 0}, {names("BOB", "BOP"), 1}, {names("M", "MA", "MAN"), 3}, {names("M", "MAN", "MA"), 3},
		{names("MARY", "KATE", "MARY", "CADE"), 10}, {names("M", "MAIE", "MAI", "MA"), 1},
	} {
		checkBridge(t, clerks(), x.list, x.want)
	}
	dearest := name.Rules{Alike: 100, Other: 100, Skip: 100, SoftSkip: 100, Double: 100}
	checkBridge(t, dearest, names("AAAAAAAAAAAA", "BBBBBBBBBBBB"), 1200)
	dearest.Alike, dearest.Other, dearest.Classes = 0, 99, names("AC")
	checkBridge(t, dearest, names("AAAAAAAAAAAA", "BBBBBBBBBBBB", "CCCCCCCCCCCC"), 1188)
}

// P4.5, P4.6: groups, bridge and center of many lists.
func TestLists(t *testing.T) {
	several, far := 0, 0
	forRules(t, func(t *testing.T, d *dice, r name.Rules) {
		l := d.throwList(12)
		costs := costsOf(t, r, l)
		for _, limit := range list(0, d.upTo(5), d.upTo(30), d.upTo(1200)) {
			want := groupsOf(costs, limit)
			checkGroups(t, r, l, limit, want)
			if 1 < len(want) && len(want) < len(l) {
				several++
			}
		}
		if len(l) == 0 {
			return
		}
		bridge := bridgeOf(costs)
		checkBridge(t, r, l, bridge)
		best := 0
		for n := range l {
			if totalOf(costs, n) < totalOf(costs, best) {
				best = n
			}
		}
		checkCenter(t, r, l, best, totalOf(costs, best))
		if best > 0 && bridge > 0 {
			far++
		}
	})
	if several < 50 || far < 50 {
		t.Errorf("only %d lists have several groups, and %d another center than the first name", several, far)
	}
}

func checkCenter(t *testing.T, r name.Rules, l []string, index, total int) {
	t.Helper()
	if i, n, e := name.Center(r, l); i != index || n != total || e != api.OK {
		t.Errorf("Center of %v by %v: %d, %d, %v, not %d, %d", l, r, i, n, e, index, total)
	}
}

// P4.6: the chapter's example, and some more.
func TestCenter(t *testing.T) {
	checkCenter(t, clerks(), four(), 0, 14)
	checkCenter(t, clerks(), names("MARY", "KATE", "MARY", "CADE"), 0, 20)
	checkCenter(t, clerks(), names("M", "MA", "MAN"), 1, 4)
	checkCenter(t, clerks(), names("MARY", "CADE", "KATE", "KATY"), 2, 14)
	checkCenter(t, clerks(), names("BOB"), 0, 0)
	checkCenter(t, clerks(), names("BOB", "BOP"), 0, 1)
	checkCenter(t, clerks(), names("M", "BOB", "BOB", "BOB"), 1, cost(t, clerks(), "M", "BOB"))
	checkCenter(t, name.Rules{}, four(), 0, 0)
}
