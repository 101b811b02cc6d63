package age_test

import (
	"math"
	"slices"
	"testing"

	"tithing/age"
	"tithing/api"
)

func wrongRules() map[string]age.Rule {
	return map[string]age.Rule{
		"zero":               {},
		"from -1":            rule(-1, 5, age.Near, 1),
		"from 121":           rule(121, 5, age.Near, 1),
		"from the smallest":  rule(math.MinInt, 5, age.Near, 1),
		"base 0":             rule(20, 0, age.Near, 1),
		"base -1":            rule(20, -1, age.Near, 1),
		"base 13":            rule(20, 13, age.Near, 1),
		"base the greatest":  rule(20, math.MaxInt, age.Near, 1),
		"mode -1":            rule(20, 5, -1, 1),
		"mode 2":             rule(20, 5, 2, 1),
		"error -1":           rule(20, 5, age.Near, -1),
		"error 6":            rule(20, 5, age.Near, 6),
		"error the greatest": rule(20, 5, age.Near, math.MaxInt),
	}
}

// P3.1, P3.2: that the rule is not valid comes before all else.
func TestWrongRules(t *testing.T) {
	for name, r := range wrongRules() {
		for _, n := range list(20, -1, 126, 141, math.MinInt, math.MaxInt) {
			if n, e := age.Write(r, n); n != 0 || e != api.ErrArg {
				t.Errorf("Write, %s: %d, %v", name, n, e)
			}
			if l, e := age.True(r, n); len(l) != 0 || e != api.ErrArg {
				t.Errorf("True, %s: %v, %v", name, l, e)
			}
			for _, written := range [][]int{nil, list(n), slices.Repeat(list(n), 201)} {
				for _, ages := range spans(to(0, 120), to(5, 4)) {
					if c, e := age.Count(r, written, ages); c != to(0, 0) || e != api.ErrArg {
						t.Errorf("Count, %s: %v, %v", name, c, e)
					}
				}
			}
		}
	}
	for _, r := range []age.Rule{rule(0, 1, age.Down, 0), rule(120, 12, age.Near, 5)} {
		if _, e := age.Write(r, 125); e != api.OK {
			t.Errorf("Write by %v: %v", r, e)
		}
		if _, e := age.True(r, 140); e != api.OK {
			t.Errorf("True by %v: %v", r, e)
		}
	}
}

// P3.1: days, ages and numbers that are not there.
func TestWrongNumbers(t *testing.T) {
	for _, x := range [][2]int{{100, 99}, {0, -1}, {-50001, 5}, {-50001, -50001}, {5, 50001}, {50001, 50001}, {math.MinInt, math.MaxInt}, {math.MaxInt, math.MinInt}, {0, math.MaxInt}, {math.MinInt, 0}} {
		if n, e := age.Age(x[0], x[1]); n != 0 || e != api.ErrRange {
			t.Errorf("Age of %d on %d: %d, %v", x[0], x[1], n, e)
		}
	}
	for _, r := range []age.Rule{exact(), fives(), tens()} {
		for _, n := range list(-1, 126, 140, math.MinInt, math.MaxInt) {
			if n, e := age.Write(r, n); n != 0 || e != api.ErrRange {
				t.Errorf("Write by %v: %d, %v", r, n, e)
			}
		}
		for _, n := range list(-1, 141, math.MinInt, math.MaxInt) {
			if l, e := age.True(r, n); len(l) != 0 || e != api.ErrRange {
				t.Errorf("True by %v of %d: %v, %v", r, n, l, e)
			}
		}
	}
}

// P3.2, P3.3: the errors of tables, in their order.
func TestWrongTables(t *testing.T) {
	tooMany := slices.Repeat(list(141), 201)
	for _, x := range []struct {
		written []int
		ages    age.Range
		e       api.Errno
	}{
		{make([]int, 201), to(0, 120), api.ErrLimit}, {tooMany, to(5, 4), api.ErrLimit},
		{list(20, 141), to(0, 5), api.ErrRange}, {list(-1, 20), to(0, 5), api.ErrRange}, {list(24, 141), to(0, 5), api.ErrRange}, {list(math.MaxInt), to(0, 5), api.ErrRange}, {list(math.MinInt), to(0, 5), api.ErrRange},
		{nil, to(0, 121), api.ErrRange}, {nil, to(-1, 5), api.ErrRange}, {nil, to(5, 4), api.ErrRange}, {list(20), to(-1, -1), api.ErrRange}, {list(20), to(121, 121), api.ErrRange}, {list(20), to(math.MinInt, math.MaxInt), api.ErrRange}, {list(24), to(5, 4), api.ErrRange},
		{list(24), to(0, 120), api.ErrFail}, {list(20, 24), to(0, 5), api.ErrFail}, {list(125, 20), to(0, 120), api.ErrFail}, {append(make([]int, 199), 140), to(0, 0), api.ErrFail},
	} {
		if c, e := age.Count(fives(), x.written, x.ages); c != to(0, 0) || e != x.e {
			t.Errorf("Count of %v in %v: %v, %v, not %v", x.written, x.ages, c, e, x.e)
		}
	}
	for _, x := range []struct {
		written []int
		base    int
		e       api.Errno
	}{
		{make([]int, 201), 5, api.ErrLimit}, {tooMany, 13, api.ErrLimit},
		{nil, 0, api.ErrArg}, {nil, 13, api.ErrArg}, {list(141), 0, api.ErrArg}, {list(20), -1, api.ErrArg}, {list(20), math.MinInt, api.ErrArg}, {list(20), math.MaxInt, api.ErrArg},
		{list(141), 5, api.ErrRange}, {list(20, -1), 5, api.ErrRange}, {list(20, math.MinInt), 1, api.ErrRange}, {list(math.MaxInt), 12, api.ErrRange},
		{nil, 5, api.ErrNone}, {[]int{}, 1, api.ErrNone},
	} {
		if n, e := age.Heaping(x.written, x.base); n != 0 || e != x.e {
			t.Errorf("Heaping of %v to %d: %d, %v, not %v", x.written, x.base, n, e, x.e)
		}
	}
}

// wrongPerson is not valid, with its error.
type wrongPerson struct {
	p age.Person
	e api.Errno
}

func wrongPersons() map[string]wrongPerson {
	changed := func(e api.Errno, change func(p *age.Person)) wrongPerson {
		p := born(0, 20000, first(), second())
		change(&p)
		return wrongPerson{p, e}
	}
	bornIn := func(low, high int) wrongPerson {
		return changed(api.ErrArg, func(p *age.Person) { p.Born = to(low, high) })
	}
	second := func(day, rule, written int) wrongPerson {
		return changed(api.ErrArg, func(p *age.Person) { p.Records[1] = record(day, rule, written) })
	}
	out := map[string]wrongPerson{
		"5 rules":                 changed(api.ErrLimit, func(p *age.Person) { p.Rules = slices.Repeat(p.Rules[:1], 5) }),
		"5 rules, none right":     changed(api.ErrLimit, func(p *age.Person) { p.Born, p.Rules = to(5, 4), make([]age.Rule, 5) }),
		"9 records":               changed(api.ErrLimit, func(p *age.Person) { p.Records = slices.Repeat(p.Records[:1], 9) }),
		"9 records, none right":   changed(api.ErrLimit, func(p *age.Person) { p.Rules, p.Records = nil, slices.Repeat([]age.Record{record(50001, 9, -1)}, 9) }),
		"9 records, a wrong rule": changed(api.ErrLimit, func(p *age.Person) { p.Rules[0].Base, p.Records = 0, make([]age.Record, 9) }),
		"nothing":                 {age.Person{}, api.ErrArg},
		"no rules":                {age.Person{Born: to(0, 9)}, api.ErrArg},
		"no rules, records":       changed(api.ErrArg, func(p *age.Person) { p.Rules = nil }),
		"born on -50001":          bornIn(-50001, 5),
		"born on 50001":           bornIn(5, 50001),
		"Born falls":              bornIn(6, 5),
		"Born is any day":         bornIn(math.MinInt, math.MaxInt),
		"Born is before all days": bornIn(-50001, -50001),
		"Born is after all days":  bornIn(math.MaxInt, math.MaxInt),
		"day -50001":              second(-50001, 0, 30),
		"day 50001":               second(50001, 0, 30),
		"the smallest day":        second(math.MinInt, 0, 30),
		"the greatest day":        second(math.MaxInt, 0, 30),
		"rule -1":                 second(12000, -1, 30),
		"rule 3":                  second(12000, 3, 30),
		"the greatest rule":       second(12000, math.MaxInt, 30),
		"written -1":              second(12000, 0, -1),
		"written 141":             second(12000, 0, 141),
		"the greatest written":    second(12000, 0, math.MaxInt),
		"the first record":        changed(api.ErrArg, func(p *age.Person) { p.Records[0].Written = 141 }),
	}
	for name, r := range wrongRules() {
		// The rule that no record names, too.
		out["the last rule "+name] = changed(api.ErrArg, func(p *age.Person) { p.Rules[2] = r })
		out["the first rule "+name] = changed(api.ErrArg, func(p *age.Person) { p.Rules[0] = r })
	}
	return out
}

// P3.4: the error of the person, or OK.
func TestCheckPerson(t *testing.T) {
	for name, x := range wrongPersons() {
		if e := age.CheckPerson(x.p); e != x.e {
			t.Errorf("%s: %v, not %v", name, e, x.e)
		}
	}
	for name, p := range map[string]age.Person{
		"the example":      born(0, 20000, first(), second()),
		"a contradiction":  born(0, 20000, first(), second(), wrong()),
		"no records":       born(5, 5),
		"empty records":    {Born: to(5, 9), Rules: []age.Rule{exact()}, Records: []age.Record{}},
		"any day":          born(-50000, 50000),
		"4 rules":          {Rules: slices.Repeat([]age.Rule{rule(120, 12, age.Near, 5)}, 4)},
		"8 records":        born(0, 9, slices.Repeat([]age.Record{record(50000, 2, 140)}, 8)...),
		"the first record": born(0, 9, record(-50000, 0, 0)),
	} {
		if e := age.CheckPerson(p); e != api.OK {
			t.Errorf("%s: %v", name, e)
		}
	}
}

// personCalls are all calls with a person and an error: each returns it, and whether its other results are zero.
func personCalls(p age.Person) map[string]func() (api.Errno, bool) {
	right := born(0, 20000)
	return map[string]func() (api.Errno, bool){
		"Births":           func() (api.Errno, bool) { l, e := age.Births(p); return e, len(l) == 0 },
		"On":               func() (api.Errno, bool) { l, e := age.On(p, 50000); return e, len(l) == 0 },
		"On no day":        func() (api.Errno, bool) { l, e := age.On(p, 50001); return e, len(l) == 0 },
		"Leave":            func() (api.Errno, bool) { l, e := age.Leave(p); return e, len(l) == 0 },
		"Same, first":      func() (api.Errno, bool) { is, e := age.Same(p, right); return e, !is },
		"Same, second":     func() (api.Errno, bool) { is, e := age.Same(right, p); return e, !is },
		"Same, both":       func() (api.Errno, bool) { is, e := age.Same(p, p); return e, !is },
		"Together, first":  func() (api.Errno, bool) { l, e := age.Together(p, right); return e, len(l) == 0 },
		"Together, second": func() (api.Errno, bool) { l, e := age.Together(right, p); return e, len(l) == 0 },
		"Together, both":   func() (api.Errno, bool) { l, e := age.Together(p, p); return e, len(l) == 0 },
	}
}

// P3.4 to P3.7: that the person is not valid comes before all else.
func TestWrongPersons(t *testing.T) {
	for name, x := range wrongPersons() {
		for call, f := range personCalls(x.p) {
			if e, zero := f(); e != x.e || !zero {
				t.Errorf("%s of a person with %s: %v, not %v; zero: %v", call, name, e, x.e, zero)
			}
		}
		for _, n := range list(0, 700, x.p.Born.Lo, x.p.Born.Hi, math.MinInt, math.MaxInt) {
			if age.ProveBirth(x.p, n) {
				t.Errorf("ProveBirth of a person with %s: %d", name, n)
			}
		}
	}
}

// P3.7: the first person is checked completely before the second one.
func TestTwoWrongPersons(t *testing.T) {
	fails := born(0, 20000, second(), wrong())
	for name, x := range wrongPersons() {
		for other, y := range wrongPersons() {
			if is, e := age.Same(x.p, y.p); is || e != x.e {
				t.Errorf("Same of persons with %s, %s: %v, %v, not %v", name, other, is, e, x.e)
			}
			if l, e := age.Together(x.p, y.p); len(l) > 0 || e != x.e {
				t.Errorf("Together of persons with %s, %s: %v, %v, not %v", name, other, l, e, x.e)
			}
		}
		if is, e := age.Same(fails, x.p); is || e != x.e {
			t.Errorf("Same of a contradiction and a person with %s: %v, %v, not %v", name, is, e, x.e)
		}
		if l, e := age.Together(fails, x.p); len(l) > 0 || e != x.e {
			t.Errorf("Together of a contradiction and a person with %s: %v, %v, not %v", name, l, e, x.e)
		}
	}
}

// P3.5: that there is no such day comes before a contradiction, and this before that the person was not yet born.
func TestOnOrder(t *testing.T) {
	right, fails := born(700, 20000, first(), second()), born(700, 20000, first(), wrong())
	for _, x := range []struct {
		p   age.Person
		day int
		e   api.Errno
	}{
		{right, 50001, api.ErrRange}, {right, -50001, api.ErrRange}, {right, math.MaxInt, api.ErrRange}, {right, math.MinInt, api.ErrRange},
		{fails, 50001, api.ErrRange}, {fails, -50001, api.ErrRange},
		{fails, 50000, api.ErrFail}, {fails, 699, api.ErrFail}, {fails, -50000, api.ErrFail},
		{right, 699, api.ErrNone}, {right, -50000, api.ErrNone}, {born(0, 20000, first(), second()), 685, api.ErrNone}, {born(50000, 50000), 49999, api.ErrNone}, {split(), 1050, api.ErrNone},
	} {
		if l, e := age.On(x.p, x.day); len(l) > 0 || e != x.e {
			t.Errorf("On %d of %v: %v, %v, not %v", x.day, x.p, l, e, x.e)
		}
	}
}

// P3.4: days that are not in Born, or not allowed by a record.
func TestNotProved(t *testing.T) {
	p := born(0, 20000, first(), second())
	for _, n := range list(-1, 0, 685, 1051, 10001, 12001, 20000, 20001, -50001, 50001, math.MinInt, math.MaxInt) {
		if age.ProveBirth(p, n) {
			t.Errorf("ProveBirth: %d", n)
		}
	}
	for _, n := range list(686, 700, 1050) {
		if !age.ProveBirth(p, n) {
			t.Errorf("ProveBirth: not %d", n)
		}
	}
	// Known ages above MaxAgeAge are written, but true ones do not exist.
	old := age.Person{Born: to(-50000, 0), Rules: []age.Rule{rule(0, 1, age.Down, 5)}, Records: []age.Record{record(0, 0, 123)}}
	for birth, want := range map[int]bool{-120*365 - 364: true, -121 * 365: false, -118*365 - 1: true, -118 * 365: true, -117*365 - 364: false} {
		if age.ProveBirth(old, birth) != want {
			t.Errorf("ProveBirth of somebody very old: %d", birth)
		}
	}
}
