package book_test

import (
	"slices"
	"strconv"
	"strings"
	"testing"

	"tithing/api"
	"tithing/book"
	"tithing/hide"
)

// callsOf are all calls with lines: each returns its error, and whether all other results are zero.
func callsOf(l []string) map[string]func() (api.Errno, bool) {
	return map[string]func() (api.Errno, bool){
		"Play": func() (api.Errno, bool) {
			s, errors, e := book.Play(l)
			return e, sameState(s, book.State{}) && len(errors) == 0
		},
		"Persons": func() (api.Errno, bool) {
			p, o, e := book.Persons(l)
			return e, p == to(0, 0) && o == to(0, 0)
		},
		"Ranges":  func() (api.Errno, bool) { r, e := book.Ranges(l); return e, len(r) == 0 },
		"Exposed": func() (api.Errno, bool) { n, e := book.Exposed(l); return e, n == 0 },
		"Seats":   func() (api.Errno, bool) { n, e := book.Seats(l); return e, len(n) == 0 },
		"Report":  func() (api.Errno, bool) { s, e := book.Report(l); return e, s == "" },
		"Write":   func() (api.Errno, bool) { b, e := book.Write(l); return e, len(b) == 0 },
		"Resume":  func() (api.Errno, bool) { b, e := book.Resume(nil, l); return e, len(b) == 0 },
		"Resume of a file": func() (api.Errno, bool) {
			b, e := book.Resume([]byte(fileOf(example())), l)
			return e, len(b) == 0
		},
	}
}

// R1, R2: too many lines, or lines that are too long, whatever else they are.
func TestTooMuch(t *testing.T) {
	long := strings.Repeat("x", 201)
	for name, l := range map[string][]string{
		"51 lines": times(51, "x"), "51 empty lines": make([]string, 51), "51 accepted lines": times(51, "publish"), "100 lines": times(100, "rule 2 4 0"), "a long line": lines(long), "a long line at the end": example(long), "a long line at the beginning": append(lines(long), example()...), "a very long line": lines(strings.Repeat("a", 100000)), "a long line of zeros": lines("drop " + strings.Repeat("0", 196)), "51 long lines": times(51, long), "a long line of runes": lines(strings.Repeat("\u00e9", 101)),
	} {
		for call, f := range callsOf(l) {
			if e, zero := f(); e != api.ErrLimit || !zero {
				t.Errorf("%s of %s: %v; zero: %v", call, name, e, zero)
			}
		}
	}
	// Lines of the file do not count against those of the call, but for the whole file.
	if f, e := book.Resume([]byte(fileOf(times(50, "x"))), times(51, "x")); f != nil || e != api.ErrLimit {
		t.Errorf("Resume: %q, %v", f, e)
	}
	for name, l := range map[string][]string{"50 lines": times(50, "rule 2 4 0"), "a line of 200 bytes": lines(long[1:]), "200 bytes of runes": lines(strings.Repeat("\u00e9", 100)), "50 lines of 200 bytes": times(50, long[1:]), "no lines": nil} {
		for call, f := range callsOf(l) {
			e, zero := f()
			want := api.OK
			switch {
			case call == "Exposed":
				want = api.ErrNone
			case call == "Resume of a file" && name == "50 lines":
				want = api.ErrLimit
			}
			if e != want || want != api.OK && !zero {
				t.Errorf("%s of %s: %v, not %v; zero: %v", call, name, e, want, zero)
			}
		}
	}
}

// R2: together with ErrNone and ErrTie the other results are zero.
func TestWithErrors(t *testing.T) {
	ties, none := 0, 0
	forSessions(t, 300, 50, func(t *testing.T, d *dice, l []string) {
		if n, e := book.Exposed(l); e == api.ErrNone {
			none++
			if n != 0 {
				t.Errorf("Exposed of %q: %d, %v", l, n, e)
			}
		}
		if seats, e := book.Seats(l); e == api.ErrTie {
			ties++
			if seats != nil {
				t.Errorf("Seats of %q: %v, %v", l, seats, e)
			}
		}
	})
	if ties < 20 || none < 50 {
		t.Errorf("only %d ties, %d sessions where nothing is exposed", ties, none)
	}
}

// R3: nil and a list without elements are the same.
func TestEmptyLists(t *testing.T) {
	for _, l := range [][]string{nil, {}} {
		if s, errors, e := book.Play(l); !sameState(s, beginning()) || len(errors) != 0 || e != api.OK {
			t.Errorf("Play: %v, %v, %v", s, errors, e)
		}
		want := toldOf(beginning())
		if x := toldBy(t, l); !same(x, want) {
			t.Errorf("Persons, Ranges, Seats, Exposed: %v", x)
		}
		report := "entries 0 persons 0..0 omitted 0..0\ntable 0 0 0 0 0 0\nranges 0..0 0..0 0..0 0..0 0..0 0..0\nseats 0 0 0\nexposed none\n"
		if s, e := book.Report(l); s != report || e != api.OK {
			t.Errorf("Report: %q, %v", s, e)
		}
		if b, e := book.Write(l); len(b) != 0 || e != api.OK {
			t.Errorf("Write: %q, %v", b, e)
		}
		for _, b := range [][]byte{nil, {}} {
			if got, n := book.Recover(b); len(got) != 0 || n != 0 {
				t.Errorf("Recover: %q, %d", got, n)
			}
			if f, e := book.Resume(b, l); len(f) != 0 || e != api.OK {
				t.Errorf("Resume: %q, %v", f, e)
			}
		}
	}
}

// roomy returns the list with free room behind it, which nobody may write to either.
func roomy[T any](list []T) []T { return slices.Grow(slices.Clone(list), 8) }

// whole returns the list with all the room behind it.
func whole[T any](list []T) []T { return slices.Clone(list[:cap(list)]) }

// spoil writes to all the memory of the list, up to its capacity.
func spoil[T any](list []T, with T) {
	list = list[:cap(list)]
	for i := range list {
		list[i] = with
	}
}

// R4: arguments are not written to, not even behind their ends.
func TestArgumentsAreKept(t *testing.T) {
	for _, x := range fixed() {
		l, b := roomy(x), roomy([]byte(fileOf(x)))
		l2, b2 := whole(l), whole(b)
		for range 2 {
			for _, do := range callsOf(l) {
				do()
			}
			book.Recover(b)
			book.Resume(b, l)
		}
		if !slices.Equal(whole(l), l2) || !slices.Equal(whole(b), b2) {
			t.Errorf("arguments are changed: %q, %q", whole(l), whole(b))
		}
	}
}

// R4: the lists of a state are in memory of their own.
func TestMemoryOfStates(t *testing.T) {
	for _, l := range fixed() {
		want, errors := play(t, l)
		want, kept := copyOf(want), slices.Clone(errors)
		for range 3 {
			s, errors := play(t, l)
			if !sameState(s, want) || !slices.Equal(errors, kept) {
				t.Fatalf("Play of %q: %v, %v, not %v, %v", l, s, errors, want, kept)
			}
			left := copyOf(s)
			for _, x := range []struct{ do, mark func() }{
				{func() { spoil(s.Entries, entry(7, 7, 7, 7, 7)) }, func() { left.Entries = s.Entries }},
				{func() { spoil(s.Same, pair(-1, -2)) }, func() { left.Same = s.Same }},
				{func() { spoil(s.Apart, pair(-3, -4)) }, func() { left.Apart = s.Apart }},
				{func() { spoil(s.Hidden, at(-5, -6)) }, func() { left.Hidden = s.Hidden }},
				{func() { spoil(s.Requests, request(9, 9, 9, 9)) }, func() { left.Requests = s.Requests }},
				{func() { spoil(errors, api.ErrState) }, func() {}},
			} {
				x.do()
				x.mark()
				// What was not written to is as it was.
				if !sameState(s, left) {
					t.Fatalf("Play of %q: lists share memory: %v, %v", l, s, left)
				}
				left = copyOf(left)
			}
		}
	}
}

// R4: results are in memory of their own.
func TestMemory(t *testing.T) {
	for _, l := range fixed() {
		want := toldOf(func() book.State { s, _ := play(t, l); return s }())
		b := []byte(fileOf(l))
		for range 3 {
			x := toldBy(t, l)
			if !same(x, want) {
				t.Fatalf("Ranges, Seats of %q: %v", l, x)
			}
			for i := range x.ranges {
				spoil(x.ranges[i], hide.Range{Lo: -7, Hi: -7})
				if i+1 < len(x.ranges) && !slices.Equal(x.ranges[i+1], want.ranges[i+1]) {
					t.Errorf("Ranges of %q: rows share memory", l)
				}
			}
			spoil(x.seats, -7)
			file := write(t, l)
			got, n := book.Recover(file)
			resumed, e := book.Resume(file, nil)
			if string(file) != string(b) || !slices.Equal(got, l) || n != len(b) || string(resumed) != string(b) || e != api.OK {
				t.Fatalf("Write, Recover, Resume of %q: %q; %q, %d; %q, %v", l, file, got, n, resumed, e)
			}
			spoil(resumed, 'x')
			if string(file) != string(b) {
				t.Errorf("Resume of %q: it shares memory with the file", l)
			}
			spoil(file, 'y')
			if !slices.Equal(got, l) {
				t.Errorf("Recover of the file of %q: it shares memory with the file", l)
			}
			spoil(got, "z")
		}
	}
}

// A call with equal arguments returns equal results, whatever was called before it.
func TestNothingIsStored(t *testing.T) {
	type results struct {
		s      book.State
		errors []api.Errno
		told   told
		report string
	}
	ask := func(l []string) results {
		s, errors := play(t, l)
		report, _ := book.Report(l)
		return results{s, errors, toldBy(t, l), report}
	}
	for _, l := range fixed() {
		a := ask(l)
		for _, other := range fixed() {
			ask(other)
			book.Resume([]byte(fileOf(other)), other)
		}
		b := ask(slices.Clone(l))
		if !sameState(a.s, b.s) || !slices.Equal(a.errors, b.errors) || !same(a.told, b.told) || a.report != b.report {
			t.Errorf("%q: %v; again: %v", l, a, b)
		}
	}
}

// wildLine makes a line of any kind.
func (d *dice) wildLine() string {
	switch d.upTo(4) {
	case 0:
		return d.anyLine()
	case 1:
		return strings.Repeat(d.word()+" ", d.upTo(40))
	case 2:
		return d.spoilt(d.spoilt(d.line(d.word(), 3)))
	}
	return d.line(d.word(), 3)
}

// P1: each call returns, whatever its arguments are.
func TestWildLines(t *testing.T) {
	d := dice(6)
	fine, wrong := 0, 0
	for range 1500 {
		var l []string
		for range d.of(d.upTo(20), d.upTo(51), 50, 51) {
			l = append(l, d.wildLine())
		}
		isLong := func(line string) bool { return len(line) > 200 }
		if len(l) > 50 || slices.ContainsFunc(l, isLong) {
			wrong++
			for call, f := range callsOf(l) {
				if e, zero := f(); e != api.ErrLimit || !zero {
					t.Fatalf("%s of %q: %v; zero: %v", call, l, e, zero)
				}
			}
			continue
		}
		fine++
		p := newPlayer()
		var want []api.Errno
		for _, line := range l {
			want = append(want, p.execute(line))
		}
		if s, errors := play(t, l); !sameState(s, p.State) || !slices.Equal(errors, want) {
			t.Fatalf("Play of %q: %v, %v, not %v, %v", l, s, errors, p.State, want)
		}
		if x, want := toldBy(t, l), toldOf(p.State); !same(x, want) {
			t.Fatalf("Persons, Ranges, Seats, Exposed of %q: %v, not %v", l, x, want)
		}
	}
	if fine < 300 || wrong < 300 {
		t.Errorf("only %d sessions, %d that are too long", fine, wrong)
	}
}

// P1: Recover and Resume of any bytes.
func TestWildBytes(t *testing.T) {
	d := dice(7)
	read := 0
	for range 4000 {
		b := []byte(fileOf(d.anyLines(5)))
		for range d.of(0, 1, 1, 2, 9) {
			i := d.upTo(len(b))
			b = slices.Concat(b[:i], []byte{byte(d.upTo(255))}, b[min(len(b), i+d.upTo(2)):])
		}
		l, n := book.Recover(b)
		// What is read is the file of the lines, and there is no record after it.
		if fileOf(l) != string(b[:min(n, len(b))]) || n > len(b) || len(l) > 50 {
			t.Fatalf("Recover of %q: %q, %d", b, l, n)
		}
		for long := range min(201, max(0, len(b)-n-11)) {
			if line := string(b[n+11:][:long]); len(l) < 50 && strings.HasPrefix(string(b[n:]), recordOf(len(l), line)) {
				t.Fatalf("Recover of %q: %q, %d, but not the record of %q", b, l, n, line)
			}
		}
		if f, e := book.Resume(b, nil); string(f) != fileOf(l) || e != api.OK {
			t.Fatalf("Resume of %q: %q, %v", b, f, e)
		}
		read += len(l)
	}
	if read < 2000 {
		t.Errorf("only %d records", read)
	}
}

// R5: no number of a line is taken for another one.
func TestNumbersAreNotCut(t *testing.T) {
	for _, line := range lines("drop 4294967296", "drop 18446744073709551616", "rule 4294967298 5 0", "hide 4294967296 0", "drop -18446744073709551616", "omitted 0 18446744073709551616") {
		if _, errors := play(t, ten(line)); errors[10] != api.ErrForm {
			t.Errorf("Play of %q: %v", line, errors[10])
		}
	}
	for n := -999; n <= 999; n++ {
		for _, line := range lines("rule "+strconv.Itoa(n)+" 5 0", "rule 2 "+strconv.Itoa(n)+" 0") {
			p := newPlayer()
			want := p.execute(line)
			if s, errors := play(t, lines(line)); errors[0] != want || s.Rule != p.Rule {
				t.Errorf("Play of %q: %v, %v, not %v", line, errors, s.Rule, want)
			}
		}
	}
}
