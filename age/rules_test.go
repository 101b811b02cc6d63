package age_test

import (
	"math"
	"slices"
	"testing"

	"tithing/age"
	"tithing/api"
)

// roomy returns the list with free room behind it, which nobody may write to either.
func roomy[T any](list []T) []T { return slices.Grow(slices.Clone(list), 8) }

// whole returns the list with all the room behind it.
func whole[T any](list []T) []T { return slices.Clone(list[:cap(list)]) }

// spoil writes to all the memory of the list, up to its capacity.
func spoil[T any](list []T, with T) {
	list = list[:cap(list)]
	for i := range list {
		list[i] = with
	}
}

// R4: arguments are not written to, not even behind their ends.
func TestArgumentsAreKept(t *testing.T) {
	p, q := born(0, 20000, second(), wrong(), first()), born(0, 20000, first(), second())
	written := roomy(list(30, 20, 25, 20))
	for _, of := range []*age.Person{&p, &q} {
		of.Rules, of.Records = roomy(of.Rules), roomy(of.Records)
	}
	rules, records := slices.Concat(whole(p.Rules), whole(q.Rules)), slices.Concat(whole(p.Records), whole(q.Records))
	numbers := whole(written)

	for _, x := range []age.Person{p, q} {
		age.CheckPerson(x)
		age.Births(x)
		age.On(x, 11000)
		age.Leave(x)
		age.Same(x, q)
		age.Together(q, x)
		age.ProveBirth(x, 700)
	}
	age.Count(fives(), written, to(20, 25))
	age.Heaping(written, 5)

	if !slices.Equal(slices.Concat(whole(p.Rules), whole(q.Rules)), rules) || !slices.Equal(slices.Concat(whole(p.Records), whole(q.Records)), records) {
		t.Error("a person is changed")
	}
	if !slices.Equal(whole(written), numbers) {
		t.Errorf("a list is changed: %v", whole(written))
	}
}

// R4: results are in memory of their own.
func TestMemory(t *testing.T) {
	p, kept := split(), split()
	fails := born(0, 500, second(), wrong())
	for range 2 {
		for name, x := range map[string]struct {
			call func() ([]age.Range, api.Errno)
			want []age.Range
		}{
			"True":      {func() ([]age.Range, api.Errno) { return age.True(tens(), 20) }, spans(to(20, 20), to(25, 29))},
			"Births":    {func() ([]age.Range, api.Errno) { return age.Births(p) }, spans(to(1051, 2875), to(4336, 4700))},
			"On":        {func() ([]age.Range, api.Errno) { return age.On(p, 12000) }, spans(to(20, 20), to(25, 29))},
			"Together":  {func() ([]age.Range, api.Errno) { return age.Together(p, p) }, spans(to(1051, 2875), to(4336, 4700))},
			"no record": {func() ([]age.Range, api.Errno) { return age.Births(born(5, 9)) }, spans(to(5, 9))},
		} {
			l, e := x.call()
			k, _ := x.call()
			spoil(l, to(-7, -7))
			if !slices.Equal(k, x.want) || e != api.OK {
				t.Errorf("%s: %v, %v", name, k, e)
			}
		}
		left, _ := age.Leave(fails)
		if !slices.Equal(left, list(0, 1)) {
			t.Errorf("Leave: %v", left)
		}
		spoil(left, -7)
		if !samePerson(p, kept) {
			t.Errorf("the person is changed: %v", p)
		}
	}
}

// R3: nil and a list without elements are the same.
func TestEmptyLists(t *testing.T) {
	for _, records := range [][]age.Record{nil, {}} {
		p := age.Person{Born: to(3, 400), Rules: []age.Rule{fives()}, Records: records}
		if e := age.CheckPerson(p); e != api.OK {
			t.Errorf("CheckPerson: %v", e)
		}
		checkBirths(t, "no records", p, spans(to(3, 400)))
		if l, e := age.On(p, 400); !slices.Equal(l, spans(to(0, 1))) || e != api.OK {
			t.Errorf("On: %v, %v", l, e)
		}
		if l, e := age.Leave(p); len(l) > 0 || e != api.OK {
			t.Errorf("Leave: %v, %v", l, e)
		}
		if is, e := age.Same(p, p); !is || e != api.OK {
			t.Errorf("Same: %v, %v", is, e)
		}
		p.Rules = []age.Rule{}
		if e := age.CheckPerson(p); e != api.ErrArg {
			t.Errorf("CheckPerson without rules: %v", e)
		}
	}
	for _, written := range [][]int{nil, {}} {
		if c, e := age.Count(fives(), written, to(0, 120)); c != to(0, 0) || e != api.OK {
			t.Errorf("Count: %v, %v", c, e)
		}
		if n, e := age.Heaping(written, 5); n != 0 || e != api.ErrNone {
			t.Errorf("Heaping: %d, %v", n, e)
		}
	}
}

// reordered returns the person with its rules and records in another order.
func reordered(d *dice, p age.Person) age.Person {
	p = copyOf(p)
	slices.Reverse(p.Rules)
	for i := range p.Records {
		p.Records[i].Rule = len(p.Rules) - 1 - p.Records[i].Rule
		j := d.upTo(i)
		p.Records[i], p.Records[j] = p.Records[j], p.Records[i]
	}
	return p
}

// P7: records lead to the same ranges, and to the same number of records that have to be left out, in whatever order they are listed.
func TestAnyOrder(t *testing.T) {
	forPersons(t, func(t *testing.T, d *dice, p age.Person) {
		other := reordered(d, p)
		l, e := age.Births(p)
		if k, f := age.Births(other); !slices.Equal(l, k) || e != f {
			t.Errorf("Births of %v: %v, %v; of %v: %v, %v", p, l, e, other, k, f)
		}
		day := d.from(p.Born.Lo, 50000)
		l, e = age.On(p, day)
		if k, f := age.On(other, day); !slices.Equal(l, k) || e != f {
			t.Errorf("On %d of %v: %v, %v; of %v: %v, %v", day, p, l, e, other, k, f)
		}
		left, e := age.Leave(p)
		if k, f := age.Leave(other); len(left) != len(k) || e != f {
			t.Errorf("Leave of %v: %v, %v; of %v: %v, %v", p, left, e, other, k, f)
		}
	})
	d := dice(8)
	for range 50 {
		r, ages := d.throwRule(), d.within(0, 120)
		written := d.throwWritten(r, 30)
		c, e := age.Count(r, written, ages)
		n, g := age.Heaping(written, r.Base)
		slices.Sort(written)
		k, f := age.Count(r, written, ages)
		m, h := age.Heaping(written, r.Base)
		if c != k || n != m || e != f || g != h {
			t.Errorf("Count, Heaping of %v by %v: %v, %v; %d, %v; %v, %v; %d, %v", written, r, c, e, n, g, k, f, m, h)
		}
	}
}

// A call with equal arguments returns equal results, whatever was called before it.
func TestNothingIsStored(t *testing.T) {
	gaps := tens()
	gaps.Error = 1
	for range 3 {
		for _, x := range []struct {
			r    age.Rule
			want []age.Range
		}{{tens(), spans(to(20, 20), to(25, 29))}, {gaps, spans(to(19, 21), to(24, 30))}, {fives(), spans(to(19, 23))}, {exact(), spans(to(20, 20))}} {
			if l, e := age.True(x.r, 20); !slices.Equal(l, x.want) || e != api.OK {
				t.Errorf("True by %v: %v, %v", x.r, l, e)
			}
		}
		for _, x := range []struct {
			p    age.Person
			want []age.Range
		}{{split(), spans(to(1051, 2875), to(4336, 4700))}, {born(0, 20000, wrong(), second()), nil}, {born(0, 20000, first()), spans(to(0, 1970))}} {
			checkBirths(t, "again", x.p, x.want)
		}
	}
}

// wild are numbers of which most are not valid.
func (d *dice) wild() int {
	numbers := []int{math.MinInt, -50001, -50000, -1, 0, 1, 2, 5, 6, 12, 13, 120, 121, 125, 126, 140, 141, 50000, 50001, math.MaxInt}
	return numbers[d.upTo(len(numbers)-1)]
}

func (d *dice) wildList(most int) []int {
	var l []int
	for range d.upTo(most) {
		l = append(l, d.wild())
	}
	return l
}

// wildPerson spoils a person in some places.
func (d *dice) wildPerson() age.Person {
	p := d.throwPerson()
	if d.upTo(2) == 0 {
		p.Born = to(d.wild(), d.wild())
	}
	for range d.upTo(5) - 3 {
		p.Rules = append(p.Rules, rule(d.wild(), d.wild(), d.wild(), d.wild()))
	}
	for range d.upTo(3) - 1 {
		p.Records = append(p.Records, record(d.wild(), d.wild(), d.wild()))
	}
	return p
}

// P1: each call with a person returns, whatever its arguments are.
func TestWildPersons(t *testing.T) {
	d := dice(9)
	for range 2000 {
		p := d.wildPerson()
		valid := age.CheckPerson(p)
		proved := age.ProveBirth(p, d.wild())
		l, e := age.On(p, d.wild())
		if valid == api.OK {
			continue
		}
		if proved || len(l) > 0 || e != valid {
			t.Fatalf("%v is not valid, and yet proved: %v, or On: %v, %v", p, proved, l, e)
		}
		for call, f := range personCalls(p) {
			if e, zero := f(); e != valid || !zero {
				t.Fatalf("%s of %v: %v, not %v; zero: %v", call, p, e, valid, zero)
			}
		}
	}
}

// P1, R2: each call with numbers returns, and with an error all else is zero.
func TestWildNumbers(t *testing.T) {
	d := dice(10)
	for range 5000 {
		r := rule(d.wild(), d.wild(), d.wild(), d.wild())
		if d.upTo(1) == 0 {
			r = d.throwRule()
		}
		written := d.wildList(3)
		if d.upTo(9) == 0 {
			written = slices.Repeat(list(d.wild()), 201)
		}
		n, e := age.Age(d.wild(), d.wild())
		m, f := age.Write(r, d.wild())
		l, g := age.True(r, d.wild())
		c, h := age.Count(r, written, to(d.wild(), d.wild()))
		k, i := age.Heaping(written, d.wild())
		if e != api.OK && n != 0 || f != api.OK && m != 0 || g != api.OK && len(l) > 0 || h != api.OK && c != to(0, 0) || i != api.OK && k != 0 {
			t.Fatalf("by %v of %v: %d, %v; %d, %v; %v, %v; %v, %v; %d, %v", r, written, n, e, m, f, l, g, c, h, k, i)
		}
	}
}
