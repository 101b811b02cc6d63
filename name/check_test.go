package name_test

import (
	"math"
	"slices"
	"strings"
	"testing"

	"tithing/api"
	"tithing/name"
)

const (
	alphabet = "ABCDEFGHIJKLMNOPQRSTUVWXYZ"
	tooLong  = "ABCDEFGHIJKLM"
)

// wrongRules are not valid, with their error.
type wrongRules struct {
	r name.Rules
	e api.Errno
}

// costFields returns each cost of the rules.
func costFields(r *name.Rules) map[string]*int {
	return map[string]*int{"Alike": &r.Alike, "Other": &r.Other, "Skip": &r.Skip, "SoftSkip": &r.SoftSkip, "Double": &r.Double}
}

func allWrongRules() map[string]wrongRules {
	changed := func(e api.Errno, change func(r *name.Rules)) wrongRules {
		r := clerks()
		change(&r)
		return wrongRules{r, e}
	}
	classes := func(l ...string) wrongRules {
		return changed(api.ErrArg, func(r *name.Rules) { r.Classes = l })
	}
	soft := func(s string) wrongRules {
		return changed(api.ErrArg, func(r *name.Rules) { r.Soft = s })
	}
	out := map[string]wrongRules{
		"9 classes":               changed(api.ErrLimit, func(r *name.Rules) { r.Classes = strings.Split("BCDFGHJKL", "") }),
		"9 empty classes":         changed(api.ErrLimit, func(r *name.Rules) { r.Classes = make([]string, 9) }),
		"9 classes, a wrong cost": changed(api.ErrLimit, func(r *name.Rules) { r.Classes, r.Skip, r.Soft = make([]string, 9), -1, "b" }),
		"an empty class":          classes("BP", ""),
		"a class of \"\"":         classes(""),
		"a small letter":          classes("BP", "Dt"),
		"a blank":                 classes("B P"),
		"@":                       classes("@B"),
		"[":                       classes("B["),
		"a zero byte":             classes("\x00"),
		"a letter of two bytes":   classes("BÄ"),
		"byte 255":                classes("\xff"),
		"twice in a class":        classes("BPB"),
		"in two classes":          classes("BP", "DT", "PM"),
		"the same class twice":    classes("B", "B"),
		"all letters twice":       classes(alphabet, alphabet),
		"a long class":            classes(strings.Repeat(alphabet, 1000)),
		"soft and not":            classes("AB"),
		"not and soft":            classes("BA"),
		"the last one is soft":    classes("BP", "DTMNRA"),
		"the last one is not":     classes("AEIOUK"),
		"soft twice":              soft("AEA"),
		"soft twice, at the end":  soft("AEIOUYY"),
		"soft small":              soft("AEi"),
		"soft @":                  soft("@"),
		"soft [":                  soft("["),
		"soft, two bytes":         soft("Ä"),
		"soft, long":              soft(strings.Repeat(alphabet, 1000)),
		"one of a soft class":     soft("AEIOUYB"),
		"the other one":           soft("P"),
		"two of three":            soft("CK"),
	}
	for field := range costFields(&name.Rules{}) {
		for n, what := range map[int]string{-1: "-1", 101: "101", math.MinInt: "the smallest", math.MaxInt: "the greatest"} {
			out[field+" "+what] = changed(api.ErrArg, func(r *name.Rules) { *costFields(r)[field] = n })
		}
	}
	return out
}

// P4.1: the error of the rules, or OK.
func TestCheckRules(t *testing.T) {
	for what, x := range allWrongRules() {
		if e := name.CheckRules(x.r); e != x.e {
			t.Errorf("%s: %v, not %v", what, e, x.e)
		}
	}
	for what, r := range map[string]name.Rules{
		"the example":      clerks(),
		"dear":             dear(),
		"strict":           strict(),
		"nothing":          {},
		"empty classes":    {Classes: []string{}},
		"all in one class": {Classes: names(alphabet)},
		"all are soft":     {Soft: alphabet},
		"both":             {Classes: names("BP", alphabet[16:]), Soft: alphabet},
		"8 classes":        {Classes: strings.Split("AZBYCXDW", ""), Soft: "ZA"},
		"any order":        {Classes: names("ZA", "YB"), Soft: "BQY"},
		"the highest":      {Alike: 100, Other: 100, Skip: 100, SoftSkip: 100, Double: 100},
	} {
		if e := name.CheckRules(r); e != api.OK {
			t.Errorf("%s: %v", what, e)
		}
	}
}

// calls are all calls with an error but CheckRules, each with the rules, a list, a name and a limit: each returns its error, and whether its other results are zero.
func calls(r name.Rules, l []string, s string, limit int) map[string]func() (api.Errno, bool) {
	out := nameCalls(r, s)
	out["Near"] = func() (api.Errno, bool) { n, e := name.Near(r, l, s, limit); return e, len(n) == 0 }
	for call, f := range listCalls(r, l, limit) {
		out[call] = f
	}
	return out
}

func nameCalls(r name.Rules, s string) map[string]func() (api.Errno, bool) {
	return map[string]func() (api.Errno, bool){
		"Cost, first":   func() (api.Errno, bool) { n, e := name.Cost(r, s, "BOB"); return e, n == 0 },
		"Cost, second":  func() (api.Errno, bool) { n, e := name.Cost(r, "BOB", s); return e, n == 0 },
		"Cost, both":    func() (api.Errno, bool) { n, e := name.Cost(r, s, s); return e, n == 0 },
		"Align, first":  func() (api.Errno, bool) { l, e := name.Align(r, s, "BOB"); return e, len(l) == 0 },
		"Align, second": func() (api.Errno, bool) { l, e := name.Align(r, "BOB", s); return e, len(l) == 0 },
		"Align, both":   func() (api.Errno, bool) { l, e := name.Align(r, s, s); return e, len(l) == 0 },
		"Key":           func() (api.Errno, bool) { k, e := name.Key(r, s); return e, k == "" },
		"Near, name":    func() (api.Errno, bool) { n, e := name.Near(r, four(), s, 2); return e, len(n) == 0 },
	}
}

func listCalls(r name.Rules, l []string, limit int) map[string]func() (api.Errno, bool) {
	return map[string]func() (api.Errno, bool){
		"Near, list": func() (api.Errno, bool) { n, e := name.Near(r, l, "BOB", limit); return e, len(n) == 0 },
		"Groups":     func() (api.Errno, bool) { g, e := name.Groups(r, l, limit); return e, len(g) == 0 },
		"Bridge":     func() (api.Errno, bool) { n, e := name.Bridge(r, l); return e, n == 0 },
		"Center":     func() (api.Errno, bool) { i, n, e := name.Center(r, l); return e, i == 0 && n == 0 },
	}
}

func checkErrors(t *testing.T, what string, e api.Errno, calls map[string]func() (api.Errno, bool)) {
	t.Helper()
	for call, f := range calls {
		if got, zero := f(); got != e || !zero {
			t.Errorf("%s, %s: %v, not %v; zero: %v", call, what, got, e, zero)
		}
	}
}

// P4.1 to P4.6: that the rules are not valid comes before all but the limits.
func TestWrongRules(t *testing.T) {
	align := steps(step(0, 0), step(1, 1), step(2, 2))
	for what, x := range allWrongRules() {
		for _, s := range names("BOB", "", "bob", "B B") {
			checkErrors(t, what, x.e, calls(x.r, four(), s, 2))
			checkErrors(t, what, x.e, calls(x.r, names("KATE", s), s, -1))
		}
		checkErrors(t, what, x.e, listCalls(x.r, nil, 5001))
		checkErrors(t, what, api.ErrLimit, nameCalls(x.r, tooLong))
		checkErrors(t, what, api.ErrLimit, listCalls(x.r, names("", tooLong), -1))
		checkErrors(t, what, api.ErrLimit, listCalls(x.r, make([]string, 13), -1))
		for _, n := range list(0, 1000, math.MaxInt) {
			if name.ProveAlign(x.r, "BOB", "BOB", align, n) {
				t.Errorf("ProveAlign, %s: for %d", what, n)
			}
		}
	}
}

// wrongNames are no names, with their errors.
func wrongNames() map[string]api.Errno {
	return map[string]api.Errno{
		"": api.ErrForm, "b": api.ErrForm, "BOb": api.ErrForm, "B B": api.ErrForm, "BOB ": api.ErrForm, "@": api.ErrForm, "[": api.ErrForm, "\x00": api.ErrForm, "\xff": api.ErrForm, "1": api.ErrForm, "bBBBBBBBBBBB": api.ErrForm, "BBBBBBBBBBBb": api.ErrForm, "BÄR": api.ErrForm,
		// The limit is one of bytes, not of letters.
		"ÄÄÄÄÄÄ": api.ErrForm, "ÄÄÄÄÄÄA": api.ErrLimit,
		tooLong: api.ErrLimit, "             ": api.ErrLimit, "BBBBBBBBBBBBb": api.ErrLimit, strings.Repeat("B", 100000): api.ErrLimit,
	}
}

// P4.1 to P4.6: strings that are no names, alone and in lists.
func TestWrongNames(t *testing.T) {
	for s, e := range wrongNames() {
		checkErrors(t, s, e, nameCalls(clerks(), s))
		for _, limit := range list(0, 5000, -1, 5001, math.MinInt, math.MaxInt) {
			for _, l := range [][]string{names(s), names(s, "BOB"), names("BOB", s), names("BOB", s, ""), append(slices.Repeat(names("BOB"), 11), s)} {
				checkErrors(t, s, e, listCalls(clerks(), l, limit))
			}
		}
		for _, n := range list(0, 1000, math.MaxInt) {
			l := equalSteps(s[:min(3, len(s))])
			if name.ProveAlign(clerks(), s, "BOB", l, n) || name.ProveAlign(clerks(), "BOB", s, l, n) || name.ProveAlign(clerks(), s, s, nil, n) {
				t.Errorf("ProveAlign of %q for %d", s, n)
			}
			if name.ProveAlign(clerks(), s, s, equalSteps(s), n) {
				t.Errorf("ProveAlign of %q and itself for %d", s, n)
			}
		}
	}
	// A name that is too long comes before one that has no letters, wherever they are.
	for _, l := range [][]string{names("", tooLong), names(tooLong, "")} {
		checkErrors(t, "a long one", api.ErrLimit, listCalls(clerks(), l, -1))
		if n, e := name.Cost(clerks(), l[0], l[1]); n != 0 || e != api.ErrLimit {
			t.Errorf("Cost of %v: %d, %v", l, n, e)
		}
		if k, e := name.Align(clerks(), l[0], l[1]); len(k) > 0 || e != api.ErrLimit {
			t.Errorf("Align of %v: %v, %v", l, k, e)
		}
		if k, e := name.Near(clerks(), l[:1], l[1], -1); len(k) > 0 || e != api.ErrLimit {
			t.Errorf("Near of %v: %v, %v", l, k, e)
		}
	}
	// Names of one letter, and of 12.
	for _, s := range names("A", "Z", "ABCDEFGHIJKL", "ZZZZZZZZZZZZ") {
		checkCost(t, clerks(), s, s, 0)
		checkBridge(t, clerks(), names(s), 0)
	}
}

// equalSteps aligns a string with itself.
func equalSteps(s string) []name.Step {
	var l []name.Step
	for i := range len(s) {
		l = append(l, step(i, i))
	}
	return l
}

// P4.4 to P4.6: lists of more than 12 names, and limits that are not there, in their order.
func TestWrongLists(t *testing.T) {
	for _, l := range [][]string{slices.Repeat(names("BOB"), 13), make([]string, 13), append(make([]string, 12), tooLong), make([]string, 1000)} {
		for _, limit := range list(2, -1, 5001) {
			checkErrors(t, "a long list", api.ErrLimit, listCalls(clerks(), l, limit))
		}
		if n, e := name.Near(clerks(), l, "", 2); len(n) > 0 || e != api.ErrLimit {
			t.Errorf("Near: %v, %v", n, e)
		}
	}
	for _, limit := range list(-1, 5001, math.MinInt, math.MaxInt) {
		for _, l := range [][]string{nil, {}, names("BOB"), four()} {
			if n, e := name.Near(clerks(), l, "BOB", limit); len(n) > 0 || e != api.ErrRange {
				t.Errorf("Near by %d: %v, %v", limit, n, e)
			}
			if g, e := name.Groups(clerks(), l, limit); len(g) > 0 || e != api.ErrRange {
				t.Errorf("Groups by %d: %v, %v", limit, g, e)
			}
		}
		if n, e := name.Near(clerks(), four(), "", limit); len(n) > 0 || e != api.ErrForm {
			t.Errorf("Near by %d: %v, %v", limit, n, e)
		}
	}
	for _, limit := range list(0, 5000) {
		if _, e := name.Near(clerks(), four(), "BOB", limit); e != api.OK {
			t.Errorf("Near by %d: %v", limit, e)
		}
		if _, e := name.Groups(clerks(), slices.Repeat(names("BOB"), 12), limit); e != api.OK {
			t.Errorf("Groups by %d: %v", limit, e)
		}
	}
}

// P4.5, P4.6: no names.
func TestNoNames(t *testing.T) {
	for _, l := range [][]string{nil, {}} {
		if n, e := name.Bridge(clerks(), l); n != 0 || e != api.ErrNone {
			t.Errorf("Bridge: %d, %v", n, e)
		}
		if i, n, e := name.Center(clerks(), l); i != 0 || n != 0 || e != api.ErrNone {
			t.Errorf("Center: %d, %d, %v", i, n, e)
		}
		for _, limit := range list(0, 5000) {
			checkGroups(t, clerks(), l, limit, nil)
			checkNear(t, clerks(), l, "BOB", limit, nil)
		}
	}
}
