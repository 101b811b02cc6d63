package name_test

import (
	"slices"
	"strings"
	"testing"

	"tithing/api"
	"tithing/name"
)

// throwPair makes two names, mostly near each other.
func (d *dice) throwPair(most int) (a, b string) {
	a = d.throwName(most)
	if d.upTo(2) == 0 {
		return a, d.throwName(most)
	}
	b = d.throwNear(a)
	return a, b[:min(most, len(b))]
}

// P4.7: the order of two names does not matter, and a name and itself cost nothing.
func TestSymmetry(t *testing.T) {
	forRules(t, func(t *testing.T, d *dice, r name.Rules) {
		for range 5 {
			a, b := d.throwPair(12)
			if m, n := cost(t, r, a, b), cost(t, r, b, a); m != n {
				t.Errorf("Cost of %q and %q by %v: %d; in the other order: %d", a, b, r, m, n)
			}
			checkCost(t, r, a, a, 0)
		}
	})
}

// P4.8: no alignment is cheaper than the cost.
func TestNoneIsCheaper(t *testing.T) {
	equal, dearer := 0, 0
	forRules(t, func(t *testing.T, d *dice, r name.Rules) {
		a, b := d.throwPair(12)
		n := cost(t, r, a, b)
		for range 20 {
			l := d.throwAlignment(a, b)
			sum := costOf(r, a, b, l)
			if sum < n || name.ProveAlign(r, a, b, l, n) != (sum == n) {
				t.Errorf("Cost of %q and %q by %v: %d; of %v: %d", a, b, r, n, l, sum)
			}
			if sum > n {
				dearer++
			} else {
				equal++
			}
		}
	})
	if equal < 100 || dearer < 100 {
		t.Errorf("only %d alignments are as cheap, and %d dearer", equal, dearer)
	}
}

// P4.9: what a letter more costs at most.
func TestMoreLetters(t *testing.T) {
	dearer, cheaper := 0, 0
	forRules(t, func(t *testing.T, d *dice, r name.Rules) {
		for range 5 {
			a, b := d.throwPair(11)
			letter := string(d.oneOf("ABCDEFGHXYZ"))
			if d.upTo(1) == 0 {
				letter = a[len(a)-1:]
			}
			n := cost(t, r, a, b)
			more := cost(t, r, a+letter, b)
			both := cost(t, r, a+letter, b+letter)
			if more > n+skipCost(r, a+letter, len(a)) || cost(t, r, b, a+letter) != more {
				t.Errorf("Cost of %q and %q by %v: %d; with %s: %d", a, b, r, n, letter, more)
			}
			if both > n {
				t.Errorf("Cost of %q and %q by %v: %d; both with %s: %d", a, b, r, n, letter, both)
			}
			if more > n {
				dearer++
			}
			if both < n {
				cheaper++
			}
		}
	})
	if dearer < 50 || cheaper < 10 {
		t.Errorf("only %d names are dearer with a letter more, and %d are cheaper if both have it", dearer, cheaper)
	}
}

// P4.10: with lower costs in the rules no cost of two names is higher.
func TestCheaperRules(t *testing.T) {
	lower := 0
	forRules(t, func(t *testing.T, d *dice, r name.Rules) {
		a, b := d.throwPair(12)
		n := cost(t, r, a, b)
		for range 5 {
			cheap := copyOf(r)
			for _, field := range []*int{&cheap.Alike, &cheap.Other, &cheap.Skip, &cheap.SoftSkip, &cheap.Double} {
				if d.upTo(1) == 0 {
					*field = d.upTo(*field)
				}
			}
			m := cost(t, cheap, a, b)
			if m > n {
				t.Errorf("Cost of %q and %q by %v: %d; by %v: %d", a, b, r, n, cheap, m)
			}
			if m < n {
				lower++
			}
		}
	})
	if lower < 100 {
		t.Errorf("only %d costs are lower", lower)
	}
}

// P4.10: if Alike is at most Other, names of equal length cost at most Other for each index where they differ.
func TestEqualLength(t *testing.T) {
	most := 0
	forRules(t, func(t *testing.T, d *dice, r name.Rules) {
		r.Alike = min(r.Alike, r.Other)
		for range 5 {
			a, differ := d.throwName(12), 0
			b := []byte(a)
			for i := range b {
				if d.upTo(3) == 0 {
					b[i] = d.oneOf("ABCDEFGHXYZ")
				}
				if b[i] != a[i] {
					differ++
				}
			}
			n := cost(t, r, a, string(b))
			if n > r.Other*differ {
				t.Errorf("Cost of %q and %q by %v: %d; %d letters differ", a, b, r, n, differ)
			}
			if differ > 1 && n == r.Other*differ {
				most++
			}
		}
	})
	if most < 20 {
		t.Errorf("only %d names cost as much as they may", most)
	}
}

// P4.11: the key of a key, and of names that are spelt in another way.
func TestSameKeys(t *testing.T) {
	alike, soft := 0, 0
	forRules(t, func(t *testing.T, d *dice, r name.Rules) {
		for range 10 {
			s := d.throwName(11)
			key := keyAs(t, r, s)
			if k := keyAs(t, r, key); k != key {
				t.Errorf("Key of %q by %v: %q; of the key: %q", s, r, key, k)
			}
			i := d.upTo(len(s) - 1)
			sound := string(d.oneOf(classOf(r, s[i])))
			if sound != s[i:i+1] {
				alike++
			}
			spelt := names(s[:i]+sound+s[i+1:], s[:i+1]+s[i:])
			if r.Soft != "" {
				spelt = append(spelt, s[:i+1]+string(d.oneOf(r.Soft))+s[i+1:])
				soft++
			}
			for _, other := range spelt {
				if k := keyAs(t, r, other); k != key {
					t.Errorf("Key of %q by %v: %q; of %q: %q", s, r, key, other, k)
				}
			}
		}
	})
	if alike < 100 || soft < 100 {
		t.Errorf("only %d letters sound alike, and %d are soft", alike, soft)
	}
}

// groupOf returns the number of the group that has the name, and how many groups have it.
func groupOf(groups [][]int, n int) (number, many int) {
	for i, g := range groups {
		if slices.Contains(g, n) {
			number = i
			many++
		}
	}
	return number, many
}

// P4.12: each name is in one group, names of different groups cost more than the limit, and with a higher limit each group is in one group.
func TestGroupsByLimits(t *testing.T) {
	joined := 0
	forRules(t, func(t *testing.T, d *dice, r name.Rules) {
		l := d.throwList(12)
		limit := d.throwCost()
		groups, _ := name.Groups(r, l, limit)
		higher, e := name.Groups(r, l, limit+d.from(1, 50))
		if e != api.OK {
			t.Fatalf("Groups of %v by %v: %v", l, r, e)
		}
		for m := range l {
			of, many := groupOf(groups, m)
			if many != 1 {
				t.Errorf("Groups of %v by %v, %d: %v: %d is in %d groups", l, r, limit, groups, m, many)
			}
			for n := range l {
				other, _ := groupOf(groups, n)
				if other != of && cost(t, r, l[m], l[n]) <= limit {
					t.Errorf("Groups of %v by %v, %d: %v: %d and %d are linked", l, r, limit, groups, m, n)
				}
				first, _ := groupOf(higher, m)
				second, _ := groupOf(higher, n)
				if other == of && first != second {
					t.Errorf("Groups of %v by %v, %d: %v; by more: %v", l, r, limit, groups, higher)
				}
			}
		}
		if len(higher) < len(groups) {
			joined++
		}
	})
	if joined < 50 {
		t.Errorf("only %d lists have fewer groups by a higher limit", joined)
	}
}

// P4.13: by the bridge there is one group, by a lower limit there are at least two.
func TestLowerLimits(t *testing.T) {
	bridges := 0
	forRules(t, func(t *testing.T, d *dice, r name.Rules) {
		l := append(d.throwList(11), d.throwName(12))
		n, e := name.Bridge(r, l)
		if groups, f := name.Groups(r, l, n); len(groups) != 1 || e != api.OK || f != api.OK {
			t.Errorf("Bridge of %v by %v: %d, %v; Groups: %v, %v", l, r, n, e, groups, f)
		}
		if n == 0 {
			return
		}
		bridges++
		for _, limit := range list(n-1, d.upTo(n-1), 0) {
			if groups, f := name.Groups(r, l, limit); len(groups) < 2 || f != api.OK {
				t.Errorf("Bridge of %v by %v: %d; Groups by %d: %v, %v", l, r, n, limit, groups, f)
			}
		}
	})
	if bridges < 100 {
		t.Errorf("only %d lists have a bridge above 0", bridges)
	}
}

// reordered returns the list in another order.
func (d *dice) reordered(l []string) []string {
	out := slices.Clone(l)
	for i := range out {
		j := d.upTo(i)
		out[i], out[j] = out[j], out[i]
	}
	return out
}

// P4.14: no name has a lower total than the center, in whatever order they are.
func TestLowestTotal(t *testing.T) {
	other := 0
	forRules(t, func(t *testing.T, d *dice, r name.Rules) {
		l := append(d.throwList(11), d.throwName(12))
		index, total, e := name.Center(r, l)
		costs := costsOf(t, r, l)
		for n := range l {
			sum := totalOf(costs, n)
			if sum < total || n < index && sum == total || n == index && sum != total || e != api.OK {
				t.Errorf("Center of %v by %v: %d, %d, %v; the total of %d is %d", l, r, index, total, e, n, sum)
			}
			if sum > total {
				other++
			}
		}
		k := d.reordered(l)
		if _, n, f := name.Center(r, k); n != total || f != api.OK {
			t.Errorf("Center of %v by %v: %d; of %v: %d, %v", l, r, total, k, n, f)
		}
	})
	if other < 100 {
		t.Errorf("only %d names have a higher total", other)
	}
}

// P7: names, classes and soft letters lead to the same in whatever order they are listed.
func TestAnyOrder(t *testing.T) {
	forRules(t, func(t *testing.T, d *dice, r name.Rules) {
		other := r
		other.Classes, other.Soft = d.reordered(r.Classes), d.shuffled(r.Soft)
		l := append(d.throwList(11), d.throwName(12))
		k := d.reordered(l)
		limit := d.throwCost()
		for range 5 {
			a, b := d.throwPair(12)
			if m, n := cost(t, r, a, b), cost(t, other, a, b); m != n {
				t.Errorf("Cost of %q and %q by %v: %d; by %v: %d", a, b, r, m, other, n)
			}
			if m, n := keyAs(t, r, a), keyAs(t, other, a); m != n {
				t.Errorf("Key of %q by %v: %q; by %v: %q", a, r, m, other, n)
			}
		}
		m, e := name.Bridge(r, l)
		if n, f := name.Bridge(other, k); m != n || e != api.OK || f != api.OK {
			t.Errorf("Bridge of %v by %v: %d, %v; of %v by %v: %d, %v", l, r, m, e, k, other, n, f)
		}
		g, _ := name.Groups(r, l, limit)
		h, _ := name.Groups(other, k, limit)
		if !slices.Equal(spelt(l, g), spelt(k, h)) {
			t.Errorf("Groups of %v by %v, %d: %v; of %v by %v: %v", l, r, limit, g, k, other, h)
		}
	})
}

// spelt returns the names of the groups, in alphabetical order.
func spelt(l []string, groups [][]int) []string {
	var out []string
	for _, g := range groups {
		var of []string
		for _, n := range g {
			of = append(of, l[n])
		}
		slices.Sort(of)
		out = append(out, strings.Join(of, " "))
	}
	slices.Sort(out)
	return out
}
