package age_test

import (
	"slices"
	"testing"

	"tithing/age"
	"tithing/api"
)

// P3.8: if all records are true, the true day of birth is possible, nothing has to be left out, and the true age on each day is among those that the person can have.
func TestTrueBirth(t *testing.T) {
	d := dice(2)
	for range 300 {
		p, birth := d.throwTrue()
		births, e := age.Births(p)
		if !age.ProveBirth(p, birth) || !has(births, birth) || e != api.OK {
			t.Fatalf("Births of %v: %v, %v; the true one is %d", p, births, e, birth)
		}
		if l, e := age.Leave(p); len(l) > 0 || e != api.OK {
			t.Fatalf("Leave of %v: %v, %v", p, l, e)
		}
		for range 50 {
			day := d.from(birth, 50000)
			trueAge, e := age.Age(birth, day)
			if l, f := age.On(p, day); !has(l, trueAge) || e != api.OK || f != api.OK {
				t.Fatalf("On %d of %v: %v, %v; the true age is %d, %v", day, p, l, f, trueAge, e)
			}
		}
	}
}

// P3.9: a day is in the result of Births if and only if ProveBirth is true for it, and all records allow it.
func TestExactly(t *testing.T) {
	proved, refused := 0, 0
	check := func(t *testing.T, d *dice, p age.Person) {
		births, _ := age.Births(p)
		days := possible(p)
		for range 200 {
			day := d.from(p.Born.Lo-2, p.Born.Hi+2)
			if d.upTo(1) == 0 && len(births) > 0 {
				r := births[d.upTo(len(births)-1)]
				day = d.from(r.Lo-2, r.Hi+2)
			}
			i := day - p.Born.Lo
			want := 0 <= i && i < len(days) && days[i]
			if has(births, day) != want || age.ProveBirth(p, day) != want {
				t.Errorf("Births, ProveBirth of %v: %v; %d should be %v", p, births, day, want)
			}
			if want {
				proved++
			} else {
				refused++
			}
		}
	}
	forPersons(t, check)
	if proved < 5000 || refused < 5000 {
		t.Errorf("only %d days are proved, and %d refused", proved, refused)
	}
}

// P3.10: with a further record there are no other days of birth, and no fewer records have to be left out.
func TestMoreRecords(t *testing.T) {
	fewer := 0
	forPersons(t, func(t *testing.T, d *dice, p age.Person) {
		if len(p.Records) == 8 {
			return
		}
		more := withRecords(p, d.throwRecord(p, d.from(p.Born.Lo, p.Born.Hi)))
		births, _ := age.Births(p)
		l, _ := age.Births(more)
		for _, r := range l {
			if !slices.ContainsFunc(births, func(b age.Range) bool { return b.Lo <= r.Lo && r.Hi <= b.Hi }) {
				t.Errorf("Births of %v: %v; of %v: %v", p, births, more, l)
			}
		}
		if !slices.Equal(births, l) {
			fewer++
		}
		left, _ := age.Leave(p)
		if k, e := age.Leave(more); len(k) < len(left) || e != api.OK {
			t.Errorf("Leave of %v: %v; of %v: %v, %v", p, left, more, k, e)
		}
	})
	if fewer < 50 {
		t.Errorf("only %d records leave fewer days", fewer)
	}
}

// P3.11: without the smallest set the records do not contradict each other; without a shorter list, or an earlier one as long, they do.
func TestLeftOut(t *testing.T) {
	tried := 0
	forPersons(t, func(t *testing.T, d *dice, p age.Person) {
		left, e := age.Leave(p)
		if _, f := age.Births(without(p, left)); e != api.OK || f != api.OK {
			t.Errorf("Leave of %v: %v, %v; without them: %v", p, left, e, f)
		}
		for set := range 1 << len(p.Records) {
			l := numbersOf(set)
			if !smaller(l, left) {
				continue
			}
			tried++
			if _, f := age.Births(without(p, l)); f != api.ErrFail {
				t.Errorf("Leave of %v: %v; without %v: %v", p, left, l, f)
			}
		}
	})
	if tried < 500 {
		t.Errorf("only %d lists are tried", tried)
	}
}

// P3.12: a person is the same as itself if its records do not contradict each other, and the order of two persons does not matter.
func TestSame(t *testing.T) {
	same, other := 0, 0
	forPersons(t, func(t *testing.T, d *dice, p age.Person) {
		_, due := age.Births(p)
		if is, e := age.Same(p, p); is != (due == api.OK) || e != api.OK {
			t.Errorf("Same of %v and itself: %v, %v; Births: %v", p, is, e, due)
		}
		q, ok := later(p, d.from(-2000, 2000))
		if !ok {
			q = split()
		}
		is, e := age.Same(p, q)
		si, f := age.Same(q, p)
		l, g := age.Together(p, q)
		k, h := age.Together(q, p)
		if is != si || is != (len(l) > 0) || !slices.Equal(l, k) || e != api.OK || f != api.OK || g != h {
			t.Errorf("Same, Together of %v, %v: %v, %v; %v, %v; %v, %v; %v, %v", p, q, is, e, si, f, l, g, k, h)
		}
		if is {
			same++
		} else {
			other++
		}
	})
	if same < 20 || other < 20 {
		t.Errorf("only %d pairs are the same, and %d are not", same, other)
	}
}

// P3.12: together two persons with the same rules are the person with the records of both.
func TestTogetherIsOnePerson(t *testing.T) {
	joint := 0
	forPersons(t, func(t *testing.T, d *dice, p age.Person) {
		half := len(p.Records) / 2
		one, other := without(p, nil), without(p, nil)
		one.Records, other.Records = one.Records[:half], other.Records[half:]
		if d.upTo(1) == 0 {
			other.Born = to(p.Born.Lo-1, p.Born.Hi+1)
		}
		other.Born = to(max(-50000, other.Born.Lo), min(50000, other.Born.Hi))
		want, due := age.Births(p)
		if l, e := age.Together(one, other); !slices.Equal(l, want) || e != due {
			t.Errorf("Together of %v, %v: %v, %v; Births of %v: %v, %v", one, other, l, e, p, want, due)
		}
		if due == api.OK && half > 0 {
			joint++
		}
	})
	if joint < 50 {
		t.Errorf("only %d persons are joined", joint)
	}
}

// P3.13: what a rule without Error writes for an age has this age among the true ages; a greater Error does not have fewer; with Base 1 an age is written as it is.
func TestRounding(t *testing.T) {
	d := dice(5)
	for range 100 {
		r := d.throwRule()
		for error := range 6 {
			r.Error = error
			for n := range 121 {
				written, e := age.Write(r, n)
				if l, f := age.True(r, written); !has(l, n) || e != api.OK || f != api.OK {
					t.Fatalf("Write by %v of %d: %d, %v; True: %v, %v", r, n, written, e, l, f)
				}
			}
		}
		r.Error = d.upTo(4)
		greater := r
		greater.Error++
		for written := range 141 {
			l, _ := age.True(r, written)
			more, _ := age.True(greater, written)
			for n := range 121 {
				if has(l, n) && !has(more, n) {
					t.Fatalf("True of %d by %v: %v; by %v: %v", written, r, l, greater, more)
				}
			}
		}
		r.Base = 1
		for n := range 126 {
			if written, e := age.Write(r, n); written != n || e != api.OK {
				t.Fatalf("Write by %v of %d: %d, %v", r, n, written, e)
			}
		}
	}
}

// throwWritten makes a list of numbers that the rule can write.
func (d *dice) throwWritten(r age.Rule, most int) []int {
	var l []int
	for range d.upTo(most) {
		l = append(l, writes(r, d.upTo(120)))
	}
	return l
}

// P3.14: if all ages are split in two, the smallest number of persons in one part and the greatest in the other are the number of all.
func TestSplitTables(t *testing.T) {
	d := dice(6)
	unsure := 0
	for range 300 {
		r := d.throwRule()
		written := d.throwWritten(r, 200)
		older := d.from(1, 120)
		low, e := age.Count(r, written, to(0, older-1))
		high, f := age.Count(r, written, to(older, 120))
		if low.Lo+high.Hi != len(written) || low.Hi+high.Lo != len(written) || e != api.OK || f != api.OK {
			t.Errorf("Count of %v by %v, below %d: %v, %v; others: %v, %v", written, r, older, low, e, high, f)
		}
		if low.Lo < low.Hi {
			unsure++
		}
	}
	if unsure < 50 {
		t.Errorf("only %d tables are unsure", unsure)
	}
}

// P3.15: with the base 1 the heaping is 1000; if all numbers are multiples of a base it is 1000 times the base.
func TestHeapingOfMultiples(t *testing.T) {
	d := dice(7)
	for range 100 {
		var any, multiples []int
		base := d.from(1, 12)
		for range d.from(1, 200) {
			any = append(any, d.upTo(140))
			multiples = append(multiples, base*d.upTo(140/base))
		}
		if n, e := age.Heaping(any, 1); n != 1000 || e != api.OK {
			t.Errorf("Heaping of %v to 1: %d, %v", any, n, e)
		}
		if n, e := age.Heaping(multiples, base); n != 1000*base || e != api.OK {
			t.Errorf("Heaping of %v to %d: %d, %v", multiples, base, n, e)
		}
	}
}

// later returns the person that many days later, and whether it is valid.
func later(p age.Person, days int) (age.Person, bool) {
	p = copyOf(p)
	p.Born = to(p.Born.Lo+days, p.Born.Hi+days)
	for i := range p.Records {
		p.Records[i].Day += days
	}
	return p, age.CheckPerson(p) == api.OK
}

// P3.16: if Born and all days of records are later, all possible days of birth are, too.
func TestLater(t *testing.T) {
	moved := 0
	forPersons(t, func(t *testing.T, d *dice, p age.Person) {
		days := d.from(-3000, 3000)
		other, ok := later(p, days)
		if !ok {
			return
		}
		l, e := age.Births(p)
		for i := range l {
			l[i] = to(l[i].Lo+days, l[i].Hi+days)
		}
		if k, f := age.Births(other); !slices.Equal(l, k) || e != f {
			t.Errorf("Births of %v: %v, %v; %d days later: %v, %v", p, l, e, days, k, f)
		}
		if len(l) > 0 && days != 0 {
			moved++
		}
		left, _ := age.Leave(p)
		if k, f := age.Leave(other); !slices.Equal(left, k) || f != api.OK {
			t.Errorf("Leave of %v: %v; %d days later: %v, %v", p, left, days, k, f)
		}
	})
	if moved < 20 {
		t.Errorf("only %d persons are moved", moved)
	}
}
