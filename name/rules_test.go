package name_test

import (
	"math"
	"slices"
	"strings"
	"testing"

	"tithing/api"
	"tithing/name"
)

// roomy returns the list with free room behind it, which nobody may write to either.
func roomy[T any](list []T) []T { return slices.Grow(slices.Clone(list), 8) }

// whole returns the list with all the room behind it.
func whole[T any](list []T) []T { return slices.Clone(list[:cap(list)]) }

// spoil writes to all the memory of the list, up to its capacity.
func spoil[T any](list []T, with T) {
	list = list[:cap(list)]
	for i := range list {
		list[i] = with
	}
}

// R4: arguments are not written to, not even behind their ends.
func TestArgumentsAreKept(t *testing.T) {
	r := clerks()
	r.Classes = roomy(r.Classes)
	l := roomy(names("MARY", "KATY", "KATE", "CADE"))
	align := roomy(steps(step(0, 0), step(1, 1), step(2, 2), step(3, 3)))
	classes, all, before := whole(r.Classes), whole(l), whole(align)

	name.CheckRules(r)
	name.Cost(r, "KATE", "CADE")
	name.Align(r, "KATE", "CADE")
	name.ProveAlign(r, "KATE", "CADE", align, 2)
	name.Key(r, "KATE")
	name.Near(r, l, "KATE", 10)
	name.Groups(r, l, 2)
	name.Bridge(r, l)
	name.Center(r, l)

	if !slices.Equal(whole(r.Classes), classes) {
		t.Errorf("the classes are changed: %v", whole(r.Classes))
	}
	if !slices.Equal(whole(l), all) {
		t.Errorf("the list is changed: %v", whole(l))
	}
	if !slices.Equal(whole(align), before) {
		t.Errorf("the steps are changed: %v", whole(align))
	}
}

// R4: results are in memory of their own.
func TestMemory(t *testing.T) {
	r, l := clerks(), names("KATE", "MARY", "CADE", "MARIE", "R", "KATY")
	for range 2 {
		checkNear(t, r, l, "KATE", 2, list(0, 2, 5))
		near, _ := name.Near(r, l, "KATE", 2)
		spoil(near, -7)
		if k, e := name.Align(r, "BOB", "BB"); costOf(r, "BOB", "BB", k) != 1 || e != api.OK {
			t.Errorf("Align: %v, %v", k, e)
		}
		align, _ := name.Align(r, "BOB", "BB")
		spoil(align, step(-7, -7))
		// Each group is spoilt in turn; those behind it must not be.
		want := lists(list(0, 2, 5), list(1, 3), list(4))
		checkGroups(t, r, l, 3, want)
		groups, _ := name.Groups(r, l, 3)
		for i := range groups {
			if !sameLists(groups[i:], want[i:]) {
				t.Errorf("Groups share memory: %v", groups)
			}
			spoil(groups[i], -7)
		}
		groups, _ = name.Groups(r, l, 3)
		for i := len(groups) - 1; i >= 0; i-- {
			if !sameLists(groups[:i+1], want[:i+1]) {
				t.Errorf("Groups share memory: %v", groups)
			}
			spoil(groups[i], -7)
		}
	}
}

// R3: nil and a list without elements are the same.
func TestEmptyLists(t *testing.T) {
	for _, classes := range [][]string{nil, {}} {
		r := name.Rules{Classes: classes, Other: 3, Skip: 2}
		if e := name.CheckRules(r); e != api.OK {
			t.Errorf("CheckRules: %v", e)
		}
		checkCost(t, r, "KATE", "CAT", 5)
		if key := keyAs(t, r, "ANNA"); key != "ANA" {
			t.Errorf("Key: %q", key)
		}
	}
	for _, l := range [][]name.Step{nil, {}} {
		if name.ProveAlign(clerks(), "A", "A", l, 100) || name.ProveAlign(clerks(), "", "", l, 100) {
			t.Error("ProveAlign without steps")
		}
	}
}

// wild makes a number of any size.
func (d *dice) wild() int {
	switch d.upTo(5) {
	case 0:
		return math.MinInt + d.upTo(2)
	case 1:
		return math.MaxInt - d.upTo(2)
	case 2:
		return d.from(-2, 2)
	default:
		return d.from(-10, 5010)
	}
}

// wildText makes a string of any bytes.
func (d *dice) wildText() string {
	switch d.upTo(5) {
	case 0:
		return strings.Repeat(d.throwName(12), d.upTo(3))
	case 1:
		var l []byte
		for range d.upTo(14) {
			l = append(l, byte(d.upTo(255)))
		}
		return string(l)
	default:
		return d.throwName(12)
	}
}

func (d *dice) wildList(most int) []string {
	var l []string
	for range d.upTo(most) {
		l = append(l, d.wildText())
	}
	return l
}

// wildRules spoils rules in some places.
func (d *dice) wildRules() name.Rules {
	r := d.throwRules()
	switch d.upTo(9) {
	case 0:
		r.Classes = d.wildList(10)
	case 1:
		r.Soft = d.wildText()
	case 2:
		r.Classes = append(r.Classes, d.wildText())
	case 3:
		r.Alike, r.Other = d.wild(), d.wild()
	case 4:
		r.Skip, r.SoftSkip, r.Double = d.wild(), d.wild(), d.wild()
	}
	return r
}

// P1, R2: each call returns, whatever its arguments are, and with an error all else is zero.
func TestWild(t *testing.T) {
	d := dice(9)
	right, wrong := 0, 0
	for range 3000 {
		r, l, s := d.wildRules(), d.wildList(4), d.wildText()
		for call, f := range calls(r, l, s, d.wild()) {
			e, zero := f()
			if e != api.OK && !zero {
				t.Fatalf("%s of %v, %q by %v: %v, and not zero", call, l, s, r, e)
			}
			if e == api.OK {
				right++
			} else {
				wrong++
			}
			if valid := name.CheckRules(r); valid == api.ErrLimit && e != api.ErrLimit || valid == api.ErrArg && e != api.ErrArg && e != api.ErrLimit {
				t.Fatalf("%s of %v, %q by %v: %v; CheckRules: %v", call, l, s, r, e, valid)
			}
		}
		wildSteps := d.throwAlignment(s, s)
		if len(wildSteps) > 0 && d.upTo(1) == 0 {
			wildSteps[d.upTo(len(wildSteps)-1)] = step(d.wild(), d.wild())
		}
		_, e := name.Align(r, s, s)
		if name.ProveAlign(r, s, s, wildSteps, math.MaxInt) != (e == api.OK && isAlignment(s, s, wildSteps)) {
			t.Fatalf("ProveAlign of %q by %v: %v; Align: %v", s, r, wildSteps, e)
		}
	}
	if right < 5000 || wrong < 5000 {
		t.Errorf("only %d calls have a result, and %d an error", right, wrong)
	}
}

// A call with equal arguments returns equal results, also where the chapter leaves a choice.
func TestAgain(t *testing.T) {
	forRules(t, func(t *testing.T, d *dice, r name.Rules) {
		a, b := d.throwPair(12)
		l, _ := name.Align(r, a, b)
		for range 3 {
			if k, e := name.Align(copyOf(r), a, b); !slices.Equal(k, l) || e != api.OK {
				t.Errorf("Align of %q and %q by %v: %v; again: %v, %v", a, b, r, l, k, e)
			}
		}
	})
}
