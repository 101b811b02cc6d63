package age_test

import (
	"slices"
	"testing"

	"tithing/age"
	"tithing/api"
)

// P3.1: completed years of 365 days.
func TestAge(t *testing.T) {
	for _, x := range []struct{ birth, day, want int }{
		{100, 829, 1}, {100, 830, 2}, {100, 100, 0}, {100, 464, 0}, {100, 465, 1}, {-100, 264, 0}, {-100, 265, 1}, {-830, -100, 2}, {-829, -100, 1}, {-50000, 50000, 273}, {-50000, -50000, 0}, {50000, 50000, 0},
	} {
		if n, e := age.Age(x.birth, x.day); n != x.want || e != api.OK {
			t.Errorf("Age of %d on %d: %d, %v", x.birth, x.day, n, e)
		}
	}
	d := dice(6)
	for range 2000 {
		days := d.within(-50000, 50000)
		if n, e := age.Age(days.Lo, days.Hi); n != ageOn(days.Lo, days.Hi) || e != api.OK {
			t.Errorf("Age of %d on %d: %d, %v", days.Lo, days.Hi, n, e)
		}
	}
}

// P3.1: ages below From, the greatest multiple below an age, and the nearest one.
func TestWrite(t *testing.T) {
	for _, x := range []struct {
		r           age.Rule
		known, want int
	}{
		{fives(), 19, 19}, {fives(), 22, 20}, {fives(), 23, 25}, {fives(), 20, 20}, {fives(), 125, 125}, {exact(), 77, 77}, {exact(), 0, 0}, {exact(), 125, 125},
		{tens(), 24, 24}, {tens(), 25, 20}, {tens(), 29, 20}, {tens(), 30, 30}, {tens(), 125, 120},
		{rule(0, 12, age.Down, 0), 11, 0}, {rule(0, 12, age.Down, 0), 12, 12}, {rule(0, 12, age.Near, 0), 5, 0}, {rule(0, 12, age.Near, 0), 6, 12}, {rule(0, 12, age.Near, 0), 18, 24}, {rule(0, 12, age.Near, 0), 125, 120},
		{rule(0, 10, age.Near, 0), 125, 130}, {rule(120, 7, age.Down, 0), 119, 119}, {rule(120, 7, age.Down, 0), 120, 119}, {rule(120, 7, age.Near, 5), 125, 126}, {rule(0, 2, age.Near, 0), 1, 2}, {rule(0, 3, age.Near, 0), 1, 0}, {rule(0, 3, age.Near, 0), 2, 3},
	} {
		if n, e := age.Write(x.r, x.known); n != x.want || e != api.OK {
			t.Errorf("Write by %v of %d: %d, %v", x.r, x.known, n, e)
		}
	}
	for base := 1; base <= 12; base++ {
		for _, from := range list(0, 1, 20, 23, 60, 120) {
			for _, mode := range list(age.Down, age.Near) {
				r := rule(from, base, mode, base%6)
				for known := range 126 {
					if n, e := age.Write(r, known); n != writes(r, known) || e != api.OK {
						t.Errorf("Write by %v of %d: %d, %v", r, known, n, e)
					}
				}
			}
		}
	}
}

// P3.1: all true ages for which a number can be written, up to the greatest one.
func TestTrue(t *testing.T) {
	for _, x := range []struct {
		r       age.Rule
		written int
		want    []age.Range
	}{
		{fives(), 20, spans(to(19, 23))}, {fives(), 19, spans(to(18, 20))}, {fives(), 18, spans(to(17, 19))}, {fives(), 24, nil}, {fives(), 25, spans(to(22, 28))}, {fives(), 0, spans(to(0, 1))}, {fives(), 120, spans(to(117, 120))}, {fives(), 125, nil}, {fives(), 140, nil},
		{exact(), 77, spans(to(77, 77))}, {exact(), 120, spans(to(120, 120))}, {exact(), 121, nil}, {exact(), 140, nil},
		{tens(), 20, spans(to(20, 20), to(25, 29))}, {rule(21, 10, age.Down, 0), 20, spans(to(20, 29))}, {rule(25, 10, age.Down, 1), 20, spans(to(19, 21), to(24, 30))}, {rule(25, 10, age.Down, 2), 20, spans(to(18, 31))},
		{rule(0, 1, age.Down, 5), 0, spans(to(0, 5))}, {rule(0, 1, age.Down, 5), 3, spans(to(0, 8))}, {rule(0, 1, age.Down, 5), 125, spans(to(120, 120))}, {rule(0, 1, age.Down, 5), 126, nil}, {rule(0, 10, age.Near, 5), 130, spans(to(120, 120))}, {rule(0, 10, age.Near, 4), 130, nil}, {rule(0, 5, age.Near, 5), 125, spans(to(118, 120))}, {rule(0, 12, age.Down, 2), 0, spans(to(0, 13))}, {rule(0, 12, age.Down, 2), 24, spans(to(22, 37))},
	} {
		if l, e := age.True(x.r, x.written); !slices.Equal(l, x.want) || e != api.OK {
			t.Errorf("True by %v of %d: %v, %v", x.r, x.written, l, e)
		}
	}
	d := dice(7)
	several := 0
	for range 60 {
		r := d.throwRule()
		for written := range 141 {
			l, e := age.True(r, written)
			if want := rangesOf(0, trueAges(r, written)); !slices.Equal(l, want) || e != api.OK {
				t.Errorf("True by %v of %d: %v, %v, not %v", r, written, l, e, want)
			}
			if len(l) > 1 {
				several++
			}
		}
	}
	if several < 10 {
		t.Errorf("only %d numbers have several ranges", several)
	}
}

// P3.2: from those who surely are in the range to those who may be.
func TestCount(t *testing.T) {
	for _, x := range []struct {
		r       age.Rule
		written []int
		ages    age.Range
		want    age.Range
	}{
		{fives(), list(20, 25, 30), to(20, 25), to(0, 2)}, {fives(), list(20, 25, 30), to(19, 28), to(2, 3)}, {fives(), list(20, 25, 30), to(19, 27), to(1, 3)}, {fives(), list(20, 25, 30), to(0, 120), to(3, 3)}, {fives(), list(20, 25, 30), to(0, 18), to(0, 0)}, {fives(), list(20, 25, 30), to(33, 120), to(0, 1)}, {fives(), list(20, 25, 30), to(34, 120), to(0, 0)}, {fives(), list(20, 20, 20), to(23, 23), to(0, 3)}, {fives(), list(30, 20, 25, 20), to(19, 23), to(2, 3)}, {fives(), list(120), to(117, 120), to(1, 1)}, {fives(), list(120), to(118, 120), to(0, 1)},
		{tens(), list(20), to(20, 20), to(0, 1)}, {tens(), list(20), to(21, 24), to(0, 0)}, {tens(), list(20), to(20, 29), to(1, 1)}, {tens(), list(20), to(25, 29), to(0, 1)},
		{exact(), list(5, 5, 9), to(5, 8), to(2, 2)}, {exact(), list(0, 120), to(0, 0), to(1, 1)}, {exact(), nil, to(0, 5), to(0, 0)}, {exact(), make([]int, 200), to(0, 0), to(200, 200)},
	} {
		if c, e := age.Count(x.r, x.written, x.ages); c != x.want || e != api.OK {
			t.Errorf("Count by %v of %v in %v: %v, %v", x.r, x.written, x.ages, c, e)
		}
	}
	d := dice(8)
	for range 300 {
		r, ages := d.throwRule(), d.within(0, 120)
		want := to(0, 0)
		var written []int
		for range d.upTo(20) {
			n := writes(r, d.upTo(120))
			var inside, outside bool
			for a, can := range trueAges(r, n) {
				inside, outside = inside || can && has(spans(ages), a), outside || can && !has(spans(ages), a)
			}
			if inside {
				want.Hi++
			}
			if !outside {
				want.Lo++
			}
			written = append(written, n)
		}
		if c, e := age.Count(r, written, ages); c != want || e != api.OK {
			t.Errorf("Count by %v of %v in %v: %v, %v, not %v", r, written, ages, c, e, want)
		}
	}
}

// P3.3: multiples times the base, in thousandths, rounded down.
func TestHeaping(t *testing.T) {
	for _, x := range []struct {
		written    []int
		base, want int
	}{
		{list(20, 25, 31, 40), 5, 3750}, {list(20, 25, 31, 40), 10, 5000}, {list(20, 25, 31, 40), 7, 0}, {list(3, 4, 5), 3, 1000}, {list(1, 2, 4), 3, 0}, {list(0), 12, 12000}, {list(0, 1, 1), 7, 2333}, {list(0, 0, 1), 7, 4666}, {list(140), 1, 1000}, {list(140, 139), 10, 5000}, {make([]int, 200), 12, 12000},
	} {
		if n, e := age.Heaping(x.written, x.base); n != x.want || e != api.OK {
			t.Errorf("Heaping of %v to %d: %d, %v", x.written, x.base, n, e)
		}
	}
}

// years returns the days of birth of those who were from the younger to the older age on the day.
func years(day, younger, older int) age.Range { return to(day-365*older-364, day-365*younger) }

// P3.4, P3.6: the possible days of birth, and the records that have to be left out.
func TestBirthsAndLeave(t *testing.T) {
	for name, x := range map[string]struct {
		p     age.Person
		want  []age.Range
		leave []int
	}{
		"the first record":           {born(0, 20000, first()), spans(to(0, 1970)), nil},
		"both records":               {born(0, 20000, first(), second()), spans(to(686, 1050)), nil},
		"both, Born later":           {born(900, 20000, first(), second()), spans(to(900, 1050)), nil},
		"both, Born one day":         {born(1050, 1050, first(), second()), spans(to(1050, 1050)), nil},
		"no records":                 {born(5, 9), spans(to(5, 9)), nil},
		"any day":                    {born(-50000, 50000), spans(to(-50000, 50000)), nil},
		"two ranges":                 {split(), spans(years(12000, 25, 29), years(12000, 20, 20)), nil},
		"the second of two ranges":   {withRecords(split(), record(12365, 0, 21)), spans(years(12000, 20, 20)), nil},
		"new-born":                   {born(-50000, 50000, record(7, 0, 0)), spans(to(-357, 7)), nil},
		"the oldest":                 {born(-50000, 50000, record(0, 0, 120)), spans(to(-44164, -43800)), nil},
		"before the first day":       {born(-50000, 50000, record(-50000, 0, 0)), spans(to(-50000, -50000)), nil},
		"one day of two records":     {born(0, 20000, record(10000, 0, 20), record(10364, 0, 20)), spans(to(2700, 2700)), nil},
		"three records":              {born(0, 20000, first(), second(), wrong()), nil, list(2)},
		"two records, the first":     {born(-20000, 20000, second(), wrong()), nil, list(0)},
		"one against two":            {born(-20000, 20000, wrong(), second(), second()), nil, list(0)},
		"two against one":            {born(-20000, 20000, second(), second(), wrong()), nil, list(2)},
		"the middle one":             {born(-20000, 20000, second(), wrong(), second()), nil, list(1)},
		"two and two":                {born(-20000, 20000, wrong(), second(), wrong(), second()), nil, list(0, 2)},
		"one that Born does not fit": {born(0, 500, second(), first()), nil, list(0)},
		"none that Born fits":        {born(0, 500, second(), wrong()), nil, list(0, 1)},
		"one record, too late":       {born(11000, 20000, first()), nil, list(0)},
		"one that says nothing":      {born(0, 20000, record(10000, 1, 24)), nil, list(0)},
		"one that says too much":     {born(-50000, 20000, record(10000, 0, 121)), nil, list(0)},
		"before Born":                {born(0, 20000, record(-1, 0, 0)), nil, list(0)},
		"eight, none right":          {born(0, 9, slices.Repeat([]age.Record{first(), record(9, 2, 140)}, 4)...), nil, list(1, 3, 5, 7)},
		"eight, all wrong":           {born(0, 9, slices.Repeat([]age.Record{wrong()}, 8)...), nil, list(0, 1, 2, 3, 4, 5, 6, 7)},
	} {
		checkBirths(t, name, x.p, x.want)
		if l, e := age.Leave(x.p); !slices.Equal(l, x.leave) || e != api.OK {
			t.Errorf("Leave, %s: %v, %v", name, l, e)
		}
	}
}

// checkBirths reports a fault if Births does not return the ranges, or ErrFail if there are none, or if ProveBirth does not know their ends.
func checkBirths(t *testing.T, name string, p age.Person, want []age.Range) {
	t.Helper()
	due := api.OK
	if len(want) == 0 {
		due = api.ErrFail
	}
	if l, e := age.Births(p); !slices.Equal(l, want) || e != due {
		t.Errorf("Births, %s: %v, %v, not %v", name, l, e, want)
	}
	for _, n := range list(-1000000, p.Born.Lo-1, p.Born.Lo, p.Born.Hi, p.Born.Hi+1, 1000000) {
		if ok := age.ProveBirth(p, n); ok != has(want, n) {
			t.Errorf("ProveBirth, %s, %d: %v", name, n, ok)
		}
	}
	for _, r := range want {
		for _, n := range list(r.Lo-1, r.Lo, r.Hi, r.Hi+1) {
			if ok := age.ProveBirth(p, n); ok != has(want, n) {
				t.Errorf("ProveBirth, %s, %d: %v", name, n, ok)
			}
		}
	}
}

// P3.4, P3.5, P3.6: TestAnyPerson compares with the definitions, day by day.
func TestAnyPerson(t *testing.T) {
	failed, several, left := 0, 0, 0
	forPersons(t, func(t *testing.T, d *dice, p age.Person) {
		days := rangesOf(p.Born.Lo, possible(p))
		checkBirths(t, "any person", p, days)
		set, e := age.Leave(p)
		if want := leastLeft(p); !slices.Equal(set, want) || e != api.OK {
			t.Errorf("Leave of %v: %v, %v, not %v", p, set, e, want)
		}
		for _, day := range list(d.from(-50000, 50000), d.from(p.Born.Lo, p.Born.Hi), p.Born.Lo, p.Born.Hi, -50000, 50000) {
			ages, due := agesOf(p, day), api.OK
			if len(days) == 0 {
				due = api.ErrFail
			} else if len(ages) == 0 {
				due = api.ErrNone
			}
			if l, e := age.On(p, day); !slices.Equal(l, ages) || e != due {
				t.Errorf("On %d of %v: %v, %v, not %v", day, p, l, e, ages)
			}
		}
		if len(days) == 0 {
			failed++
		}
		if len(days) > 1 {
			several++
		}
		if len(set) > 1 {
			left++
		}
	})
	if failed < 50 || several < 10 || left < 20 {
		t.Errorf("only %d contradictions, %d persons with several ranges, %d with several records left out", failed, several, left)
	}
}

// P3.5: ages on a day, for those who are born then.
func TestOn(t *testing.T) {
	both := born(0, 20000, first(), second())
	for _, x := range []struct {
		p    age.Person
		day  int
		want []age.Range
	}{
		{both, 10950, spans(to(27, 28))}, {both, 12000, spans(to(30, 30))}, {both, 686, spans(to(0, 0))}, {both, 1050, spans(to(0, 0))}, {both, 1051, spans(to(0, 1))}, {both, 50000, spans(to(134, 135))},
		{split(), 12000, spans(to(20, 20), to(25, 29))}, {split(), 12364, spans(to(20, 21), to(25, 30))}, {split(), 12365, spans(to(21, 21), to(26, 30))}, {split(), 4500, spans(to(0, 0), to(4, 9))}, {split(), 4335, spans(to(4, 8))}, {split(), 1051, spans(to(0, 0))},
		{born(-50000, -50000), 50000, spans(to(273, 273))}, {born(-50000, -50000), -50000, spans(to(0, 0))}, {born(50000, 50000), 50000, spans(to(0, 0))}, {born(-50000, 50000), 50000, spans(to(0, 273))}, {born(0, 365), 364, spans(to(0, 0))}, {born(0, 365), 365, spans(to(0, 1))},
	} {
		if l, e := age.On(x.p, x.day); !slices.Equal(l, x.want) || e != api.OK {
			t.Errorf("On %d of %v: %v, %v", x.day, x.p, l, e)
		}
	}
}

// P3.7: whether two persons can be the same, and when they were born then.
func TestSameAndTogether(t *testing.T) {
	other := age.Person{Born: to(-9, 9999), Rules: []age.Rule{tens()}, Records: []age.Record{record(12000, 0, 20)}}
	for _, x := range []struct {
		name string
		p, q age.Person
		want []age.Range
	}{
		{"one record each", born(0, 20000, first()), born(0, 20000, second()), spans(to(686, 1050))},
		{"no records", born(0, 9), born(5, 20), spans(to(5, 9))},
		{"one day", born(0, 9), born(9, 20), spans(to(9, 9))},
		{"no day", born(0, 9), born(10, 20), nil},
		{"the same", split(), split(), spans(to(1051, 2875), to(4336, 4700))},
		{"two ranges", split(), born(2000, 4400), spans(to(2000, 2875), to(4336, 4400))},
		{"one of two ranges", split(), born(2000, 4335), spans(to(2000, 2875))},
		{"between two ranges", split(), born(2876, 4335), nil},
		{"other rules", split(), other, spans(to(1051, 2875), to(4336, 4700))},
		{"records that do not agree", born(0, 20000, second()), born(-20000, 20000, wrong()), nil},
		{"records of one that do not agree", born(0, 20000, first(), wrong()), born(0, 20000), nil},
		{"the same, which cannot be", born(0, 500, second()), born(0, 500, second()), nil},
	} {
		due := api.OK
		if len(x.want) == 0 {
			due = api.ErrFail
		}
		for _, two := range [][2]age.Person{{x.p, x.q}, {x.q, x.p}} {
			if is, e := age.Same(two[0], two[1]); is != (len(x.want) > 0) || e != api.OK {
				t.Errorf("Same, %s: %v, %v", x.name, is, e)
			}
			if l, e := age.Together(two[0], two[1]); !slices.Equal(l, x.want) || e != due {
				t.Errorf("Together, %s: %v, %v", x.name, l, e)
			}
		}
	}
}
