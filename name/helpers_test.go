package name_test

import (
	"slices"
	"strings"
	"testing"

	"tithing/api"
	"tithing/name"
)

// clerks has the rules of the chapter's examples.
func clerks() name.Rules {
	return name.Rules{Classes: []string{"BP", "DT", "CKQ"}, Soft: "AEIOUY", Alike: 1, Other: 4, Skip: 3, SoftSkip: 1, Double: 1}
}

// dear has rules by which it is cheapest to skip, and a vowel class that is soft.
func dear() name.Rules {
	return name.Rules{Classes: []string{"PB", "YI"}, Soft: "IAY", Alike: 50, Other: 100, Skip: 10, SoftSkip: 7, Double: 2}
}

// strict has rules by which a double letter costs most, and letters that sound alike cost more than others.
func strict() name.Rules {
	return name.Rules{Classes: []string{"MN"}, Soft: "MNA", Alike: 9, Other: 5, Skip: 4, SoftSkip: 6, Double: 100}
}

// four is the list of the chapter's examples.
func four() []string { return names("KATE", "CADE", "MARY", "KATY") }

func names(l ...string) []string { return l }

func list(l ...int) []int { return l }

func lists(l ...[]int) [][]int { return l }

func step(a, b int) name.Step { return name.Step{A: a, B: b} }

func steps(l ...name.Step) []name.Step { return l }

func sameLists(a, b [][]int) bool {
	return slices.EqualFunc(a, b, func(x, y []int) bool { return slices.Equal(x, y) })
}

func copyOf(r name.Rules) name.Rules {
	r.Classes = slices.Clone(r.Classes)
	return r
}

// classOf returns the class of the letter, or the letter itself.
func classOf(r name.Rules, letter byte) string {
	for _, class := range r.Classes {
		if strings.IndexByte(class, letter) >= 0 {
			return class
		}
	}
	return string(letter)
}

// skipCost returns what it costs to skip a letter, as the chapter defines it.
func skipCost(r name.Rules, s string, i int) int {
	if i > 0 && s[i-1] == s[i] {
		return r.Double
	}
	if strings.IndexByte(r.Soft, s[i]) >= 0 {
		return r.SoftSkip
	}
	return r.Skip
}

// stepCost returns what a step costs, as the chapter defines it.
func stepCost(r name.Rules, a, b string, s name.Step) int {
	switch {
	case s.A == name.None:
		return skipCost(r, b, s.B)
	case s.B == name.None:
		return skipCost(r, a, s.A)
	case a[s.A] == b[s.B]:
		return 0
	case classOf(r, a[s.A]) == classOf(r, b[s.B]):
		return r.Alike
	default:
		return r.Other
	}
}

func costOf(r name.Rules, a, b string, l []name.Step) int {
	sum := 0
	for _, s := range l {
		sum += stepCost(r, a, b, s)
	}
	return sum
}

// isAlignment reports whether the steps are an alignment, as the chapter defines it: the indexes of each name, without None, are all of its indexes in their order.
func isAlignment(a, b string, l []name.Step) bool {
	var ofA, ofB []int
	for _, s := range l {
		if s.A == name.None && s.B == name.None {
			return false
		}
		if s.A != name.None {
			ofA = append(ofA, s.A)
		}
		if s.B != name.None {
			ofB = append(ofB, s.B)
		}
	}
	return isCount(ofA, len(a)) && isCount(ofB, len(b))
}

// isCount reports whether the list has the numbers from 0 on that are below most, in their order.
func isCount(l []int, most int) bool {
	for i, n := range l {
		if n != i {
			return false
		}
	}
	return len(l) == most
}

// forAlignments calls do with all alignments of the names.
func forAlignments(a, b string, do func(l []name.Step)) {
	var follow func(i, j int, l []name.Step)
	follow = func(i, j int, l []name.Step) {
		if i == len(a) && j == len(b) {
			do(l)
		}
		if i < len(a) {
			follow(i+1, j, append(slices.Clone(l), step(i, -1)))
		}
		if j < len(b) {
			follow(i, j+1, append(slices.Clone(l), step(-1, j)))
		}
		if i < len(a) && j < len(b) {
			follow(i+1, j+1, append(slices.Clone(l), step(i, j)))
		}
	}
	follow(0, 0, nil)
}

// cheapest finds the minimum cost: all alignments are tried.
func cheapest(r name.Rules, a, b string) int {
	best := -1
	forAlignments(a, b, func(l []name.Step) {
		if cost := costOf(r, a, b, l); best < 0 || cost < best {
			best = cost
		}
	})
	return best
}

// keyOf returns the key, as the chapter defines it: what is left out, what sounds alike, and what is repeated is dealt with one after the other.
func keyOf(r name.Rules, s string) string {
	kept := s[:1]
	for _, letter := range s[1:] {
		if !strings.ContainsRune(r.Soft, letter) {
			kept += string(letter)
		}
	}
	key := ""
	for i := range kept {
		sound := classOf(r, kept[i])[:1]
		if !strings.HasSuffix(key, sound) {
			key += sound
		}
	}
	return key[:min(len(key), 6)]
}

func cost(t *testing.T, r name.Rules, a, b string) int {
	t.Helper()
	n, e := name.Cost(r, a, b)
	if e != api.OK {
		t.Fatalf("Cost of %q and %q by %v: %v", a, b, r, e)
	}
	return n
}

func keyAs(t *testing.T, r name.Rules, s string) string {
	t.Helper()
	key, e := name.Key(r, s)
	if e != api.OK {
		t.Fatalf("Key of %q by %v: %v", s, r, e)
	}
	return key
}

// costsOf returns the costs of any two names of the list.
func costsOf(t *testing.T, r name.Rules, l []string) [][]int {
	t.Helper()
	costs := make([][]int, len(l))
	for m := range l {
		for n := range l {
			costs[m] = append(costs[m], cost(t, r, l[m], l[n]))
		}
	}
	return costs
}

// connected tells of any two names whether chains of names linked by the limit connect them.
func connected(costs [][]int, limit int) [][]bool {
	is := make([][]bool, len(costs))
	for m := range costs {
		for n := range costs {
			is[m] = append(is[m], m == n || costs[m][n] <= limit)
		}
	}
	for through := range costs {
		for m := range costs {
			for n := range costs {
				is[m][n] = is[m][n] || is[m][through] && is[through][n]
			}
		}
	}
	return is
}

// groupsOf returns the groups by the limit: each name is in that of the first one that is connected with it.
func groupsOf(costs [][]int, limit int) [][]int {
	is := connected(costs, limit)
	byFirst := make([][]int, len(costs))
	for n := range costs {
		first := slices.Index(is[n], true)
		byFirst[first] = append(byFirst[first], n)
	}
	return slices.DeleteFunc(byFirst, func(l []int) bool { return len(l) == 0 })
}

// bridgeOf tries all limits from 0 on.
func bridgeOf(costs [][]int) int {
	limit := 0
	for len(groupsOf(costs, limit)) > 1 {
		limit++
	}
	return limit
}

func totalOf(costs [][]int, n int) int {
	sum := 0
	for _, cost := range costs[n] {
		sum += cost
	}
	return sum
}

// dice are thrown in the same way in each run.
type dice uint64

func (d *dice) upTo(most int) int {
	*d = *d*6364136223846793005 + 1442695040888963407
	return int(uint64(*d)>>33) % (most + 1)
}

func (d *dice) from(low, high int) int { return low + d.upTo(high-low) }

func (d *dice) oneOf(letters string) byte { return letters[d.upTo(len(letters)-1)] }

// shuffled returns the letters in another order.
func (d *dice) shuffled(letters string) string {
	l := []byte(letters)
	for i := range l {
		j := d.upTo(i)
		l[i], l[j] = l[j], l[i]
	}
	return string(l)
}

func (d *dice) throwCost() int { return d.upTo([]int{3, 10, 100}[d.upTo(2)]) }

// throwRules makes rules whose classes and soft letters are mostly among the first of the alphabet.
func (d *dice) throwRules() name.Rules {
	r := name.Rules{Alike: d.throwCost(), Other: d.throwCost(), Skip: d.throwCost(), SoftSkip: d.throwCost(), Double: d.throwCost()}
	letters := d.shuffled("ABCDEFGH") + d.shuffled("IJKLMNOPQRSTUVWXYZ")
	for range d.upTo(8) {
		many := d.from(1, 4)
		if many > len(letters) {
			break
		}
		class := letters[:many]
		letters = letters[many:]
		r.Classes = append(r.Classes, class)
		if d.upTo(2) == 0 {
			r.Soft += class
		}
	}
	r.Soft = d.shuffled(r.Soft + letters[:d.upTo(len(letters)/2)])
	return r
}

// throwName makes a name of few different letters, so that some are repeated.
func (d *dice) throwName(most int) string {
	letters := "ABCDEFGH"[:d.from(1, 8)]
	if d.upTo(5) == 0 {
		letters = "ABCDEFGHIJKLMNOPQRSTUVWXYZ"
	}
	s := ""
	for range d.from(1, most) {
		s += string(d.oneOf(letters))
	}
	return s
}

// throwNear makes a name that is like the other one in most letters.
func (d *dice) throwNear(s string) string {
	l := []byte(s)
	for range d.from(1, 3) {
		i := d.upTo(len(l))
		switch letter := d.oneOf("ABCDEFGHXYZ"); {
		case d.upTo(1) == 0 && i < len(l):
			l[i] = letter
		case d.upTo(1) == 0 && i < len(l) && len(l) > 1:
			l = slices.Delete(l, i, i+1)
		case len(l) < 12:
			l = slices.Insert(l, i, letter)
		}
	}
	return string(l)
}

// throwList makes a list of names some of which are near each other, or the same.
func (d *dice) throwList(most int) []string {
	var l []string
	for range d.upTo(most) {
		switch {
		case len(l) == 0 || d.upTo(3) == 0:
			l = append(l, d.throwName(12))
		case d.upTo(4) == 0:
			l = append(l, l[d.upTo(len(l)-1)])
		default:
			l = append(l, d.throwNear(l[d.upTo(len(l)-1)]))
		}
	}
	return l
}

// throwAlignment makes an alignment of the names.
func (d *dice) throwAlignment(a, b string) []name.Step {
	var l []name.Step
	i, j, skips := 0, 0, d.upTo(4)
	for i < len(a) || j < len(b) {
		both := i < len(a) && j < len(b)
		switch {
		case both && d.upTo(4) >= skips:
			l = append(l, step(i, j))
			i++
			j++
		case j == len(b) || both && d.upTo(1) == 0:
			l = append(l, step(i, -1))
			i++
		default:
			l = append(l, step(-1, j))
			j++
		}
	}
	return l
}

// forRules calls check with the rules of this file, and with many others.
func forRules(t *testing.T, check func(t *testing.T, d *dice, r name.Rules)) {
	t.Helper()
	d := dice(1)
	for _, r := range []name.Rules{clerks(), dear(), strict(), {}, {Classes: names("ABCDEFGHIJKLMNOPQRSTUVWXYZ"), Alike: 100, Other: 100, Skip: 100, SoftSkip: 100, Double: 100}} {
		check(t, &d, r)
	}
	for range 200 {
		check(t, &d, d.throwRules())
		if t.Failed() {
			return
		}
	}
}
