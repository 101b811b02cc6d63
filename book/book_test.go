package book_test

import (
	"fmt"
	"slices"
	"testing"

	"tithing/api"
	"tithing/book"
	"tithing/hide"
	"tithing/seat"
	"tithing/sheet"
)

// P12.1: the chapter's examples of sessions.
func TestExamplesOfSessions(t *testing.T) {
	for _, x := range []struct {
		more []string
		want []api.Errno
	}{
		{nil, nil},
		{lines("same 0 2", "apart 1 0", "drop 3", "number 2 4", "drop 3"), errs(api.ErrFail, api.ErrTwice, api.ErrFail, api.OK, api.OK)},
		{lines("ask 0 0 0 1", "publish"), errs(api.OK, api.ErrSecret)},
	} {
		_, errors := play(t, example(x.more...))
		if want := slices.Concat(make([]api.Errno, 10), x.want); !slices.Equal(errors, want) {
			t.Errorf("Play of the example and %q: %v, not %v", x.more, errors, want)
		}
	}
}

// P12.2 to P12.5: the chapter's examples of calls.
func TestExamplesOfCalls(t *testing.T) {
	if p, o, e := book.Persons(example()); p != to(3, 3) || o != to(0, 0) || e != api.OK {
		t.Errorf("Persons: %v, %v, %v", p, o, e)
	}
	want := [][]hide.Range{{{Lo: 0, Hi: 1}, {Lo: 1, Hi: 2}, {Lo: 1, Hi: 1}}, {{Lo: 0, Hi: 1}, {Lo: 0, Hi: 1}, {Lo: 0, Hi: 0}}}
	if l, e := book.Ranges(example()); !sameRows(l, want) || e != api.OK {
		t.Errorf("Ranges: %v, %v", l, e)
	}
	if n, e := book.Exposed(example()); n != 0 || e != api.ErrNone {
		t.Errorf("Exposed: %d, %v", n, e)
	}
	if n, e := book.Exposed(example("ask 0 2 1 0")); n != 1 || e != api.OK {
		t.Errorf("Exposed: %d, %v", n, e)
	}
	if l, e := book.Seats(example()); !slices.Equal(l, list(1, 2, 1)) || e != api.OK {
		t.Errorf("Seats: %v, %v", l, e)
	}
	if l, e := book.Seats(example("rule 2 3 0")); l != nil || e != api.ErrTie {
		t.Errorf("Seats: %v, %v", l, e)
	}
	report := "entries 4 persons 3..3 omitted 0..0\ntable 1 1 1 0 1 0\nranges 0..1 1..2 1..1 0..1 0..1 0..0\nseats 1 2 1\nexposed none\n"
	if s, e := book.Report(example()); s != report || e != api.OK {
		t.Errorf("Report: %q, %v", s, e)
	}
}

// The state before all lines.
func TestBeginning(t *testing.T) {
	for _, l := range [][]string{nil, {}, {""}, {"drop 0"}, {"entry 0 0 0 0"}} {
		if s, _ := play(t, l); !sameState(s, beginning()) {
			t.Errorf("Play of %q: %v", l, s)
		}
	}
}

// refused is a session whose last line has the error.
type refused struct {
	l []string
	e api.Errno
}

// testLast tests the errors of the last lines, and that refused ones change nothing.
func testLast(t *testing.T, all []refused) {
	t.Helper()
	for _, x := range all {
		s, errors := play(t, x.l)
		last := len(x.l) - 1
		if errors[last] != x.e {
			t.Errorf("Play of .. %q: %v, not %v", x.l[last], errors[last], x.e)
		}
		before, _ := play(t, x.l[:last])
		if x.e != api.OK && !sameState(s, before) {
			t.Errorf("Play of .. %q: %v, before %v", x.l[last], s, before)
		}
	}
}

// P12.1: the lines entry, drop and age, with all refusals in their order.
func TestLinesOfEntries(t *testing.T) {
	three := lines("entry 0 0 5 30 34", "entry 1 0 5 33 36", "number 1 1")
	then := func(l []string, more ...string) []string { return slices.Concat(l, more) }
	testLast(t, []refused{
		{lines("entry 0 0 0 0 0"), api.OK}, {lines("entry 9 1 99 120 120"), api.OK}, {lines("entry 3 0 5 0 120"), api.OK},
		{lines("entry -1 0 0 0 0"), api.ErrRange}, {lines("entry 10 0 0 0 0"), api.ErrRange}, {lines("entry 0 -1 0 0 0"), api.ErrRange}, {lines("entry 0 2 0 0 0"), api.ErrRange},
		{lines("entry 0 0 -1 0 0"), api.ErrRange}, {lines("entry 0 0 100 0 0"), api.ErrRange}, {lines("entry 0 0 0 -1 0"), api.ErrRange}, {lines("entry 0 0 0 1 0"), api.ErrRange},
		{lines("entry 0 0 0 120 121"), api.ErrRange}, {lines("entry 999999999 0 0 0 0"), api.ErrRange}, {lines("entry 0 0 0 -999999999 999999999"), api.ErrRange},
		{ten("entry 0 0 0 5 5"), api.ErrLimit}, {ten("entry 0 0 0 5 4"), api.ErrRange}, {ten("number 10 10", "entry 0 0 50 5 5"), api.ErrLimit}, {ten("drop 9", "entry 0 0 0 5 5"), api.OK},
		{then(three, "entry 2 0 5 35 40"), api.ErrFail}, {then(three, "entry 2 0 5 34 40"), api.OK}, {then(three, "entry 2 0 5 41 40"), api.ErrRange}, {lines("number 0 0", "entry 0 0 0 0 0"), api.ErrFail},
		{lines("omitted 100 100", "number 100 100", "entry 0 0 0 0 0"), api.ErrFail},

		{lines("entry 0 0 0 0 0", "drop 0"), api.OK}, {lines("drop 0"), api.ErrNone}, {lines("entry 0 0 0 0 0", "drop 1"), api.ErrNone}, {lines("entry 0 0 0 0 0", "drop -1"), api.ErrNone},
		{lines("entry 0 0 0 0 0", "drop 0", "drop 0"), api.ErrNone}, {lines("entry 0 0 0 0 0", "number 1 1", "drop 0"), api.ErrFail}, {lines("entry 0 0 0 0 0", "number 1 1", "drop 1"), api.ErrNone},
		{ten("drop 9"), api.OK}, {ten("drop 10"), api.ErrNone}, {example("drop 0"), api.OK}, {example("drop 3"), api.ErrFail}, {example("drop 999999999"), api.ErrNone},

		{then(three, "age 0 36 40"), api.OK}, {then(three, "age 1 0 30"), api.OK}, {then(three, "age 0 37 40"), api.ErrFail}, {then(three, "age 1 35 34"), api.ErrRange}, {then(three, "age 0 0 121"), api.ErrRange}, {then(three, "age 0 -1 34"), api.ErrRange},
		{then(three, "age 2 30 34"), api.ErrNone}, {then(three, "age -1 30 34"), api.ErrNone}, {then(three, "age 2 35 34"), api.ErrNone}, {then(three, "age 0 0 120"), api.OK}, {then(three, "age 0 121 121"), api.ErrRange},
		{example("age 0 36 36"), api.OK}, {example("age 0 37 37"), api.ErrFail},
	})
}

// P12.1: the lines same and apart, with all refusals in their order.
func TestLinesOfPairs(t *testing.T) {
	var alike []string
	for n := range 8 {
		alike = append(alike, fmt.Sprintf("entry %d 0 0 0 0", n))
	}
	six := func(word string, more ...string) []string {
		l := slices.Clone(alike)
		for n := range 6 {
			l = append(l, fmt.Sprintf("%s %d %d", word, n, n+1))
		}
		return append(l, more...)
	}
	of := func(more ...string) []string { return slices.Concat(alike, more) }
	var all []refused
	for _, words := range [][2]string{{"same", "apart"}, {"apart", "same"}} {
		one, other := words[0], words[1]
		all = append(all, []refused{
			{of(one + " 0 7"), api.OK}, {of(one + " 7 0"), api.OK}, {of(one + " 0 8"), api.ErrNone}, {of(one + " 8 0"), api.ErrNone}, {of(one + " 0 -1"), api.ErrNone}, {of(one + " -1 0"), api.ErrNone}, {of(one + " 8 8"), api.ErrNone},
			{of(one + " 3 3"), api.ErrTwice}, {of(one+" 3 4", one+" 3 4"), api.ErrTwice}, {of(one+" 3 4", one+" 4 3"), api.ErrTwice}, {of(other+" 3 4", one+" 3 4"), api.ErrTwice}, {of(other+" 3 4", one+" 4 3"), api.ErrTwice}, {of(one+" 3 4", one+" 3 5"), api.OK}, {of(one+" 3 4", other+" 5 3"), api.OK},
			{six(one), api.OK}, {six(one, one+" 6 7"), api.ErrLimit}, {six(one, one+" 0 8"), api.ErrNone}, {six(one, one+" 1 0"), api.ErrTwice}, {six(one, one+" 7 7"), api.ErrTwice}, {six(one, other+" 6 7"), api.OK}, {six(one, other+" 6 7", one+" 7 6"), api.ErrTwice},
		}...)
	}
	testLast(t, append(all, []refused{
		{of("same 0 1", "same 1 2", "apart 2 0"), api.ErrFail}, {of("apart 0 2", "same 0 1", "same 2 1"), api.ErrFail}, {six("same", "apart 6 0"), api.ErrFail}, {six("apart", "same 7 0", "apart 0 7"), api.ErrTwice}, {six("apart", "same 7 0", "apart 7 1"), api.ErrLimit},
		{example("same 0 2"), api.ErrFail}, {example("same 1 0"), api.ErrTwice}, {example("same 0 3"), api.ErrFail}, {of("number 1 1", "apart 0 7"), api.ErrFail}, {of("number 8 8", "same 0 7"), api.ErrFail}, {of("number 8 8", "apart 0 7"), api.OK},
		{six("same", "drop 3", "same 0 6"), api.OK}, {six("same", "drop 3", "same 0 7"), api.ErrNone},
	}...))
}

// P12.1: the lines omitted and number, with all refusals in their order.
func TestLinesOfNumbers(t *testing.T) {
	one := func(more ...string) []string { return append(lines("entry 0 0 0 0 0"), more...) }
	testLast(t, []refused{
		{lines("omitted 0 0"), api.OK}, {lines("omitted 0 100"), api.OK}, {lines("omitted 100 100"), api.OK}, {lines("omitted 0 101"), api.ErrRange}, {lines("omitted 101 101"), api.ErrRange}, {lines("omitted -1 0"), api.ErrRange}, {lines("omitted 2 1"), api.ErrRange}, {lines("omitted -2 -1"), api.ErrRange},
		{one("number 1 3", "omitted 2 9"), api.OK}, {one("number 1 3", "omitted 3 9"), api.ErrFail}, {one("number 1 3", "omitted 3 2"), api.ErrRange}, {one("number 1 3", "omitted 3 101"), api.ErrRange},
		{lines("number 0 0"), api.OK}, {lines("number 0 200"), api.OK}, {one("omitted 99 99", "number 100 100"), api.OK}, {lines("number 0 201"), api.ErrRange}, {lines("number 200 201"), api.ErrRange}, {lines("number -1 0"), api.ErrRange}, {lines("number 1 0"), api.ErrRange}, {lines("number 200 200"), api.ErrFail}, {lines("number 201 200"), api.ErrRange},
		{one("number 1 1"), api.OK}, {one("number 0 0"), api.ErrFail}, {one("number 2 2"), api.ErrFail}, {one("omitted 1 2", "number 2 2"), api.OK}, {one("omitted 1 2", "number 4 9"), api.ErrFail}, {one("omitted 1 2", "number 0 1"), api.ErrFail},
	})
}

// P12.1: the lines hide, show, ask, publish and rule, with all refusals in their order.
func TestLinesOfTables(t *testing.T) {
	var asked []string
	for n := range 8 {
		asked = append(asked, fmt.Sprintf("ask 0 0 %d 0", n))
	}
	then := func(l []string, more ...string) []string { return slices.Concat(l, more) }
	var all []refused
	for row := range 4 {
		for column := range 5 {
			hidden, shown := fmt.Sprintf("hide %d %d", row-1, column-1), fmt.Sprintf("show %d %d", row-1, column-1)
			question := fmt.Sprintf("ask %d %d 0 1000", row-1, column-1)
			if lacksCell(row-1, column-1) {
				all = append(all, refused{lines(hidden), api.ErrNone}, refused{lines(shown), api.ErrNone}, refused{lines(question), api.ErrNone})
			} else {
				all = append(all, refused{lines(hidden), api.OK}, refused{lines(hidden, hidden), api.ErrTwice}, refused{lines(shown), api.ErrNone}, refused{lines(hidden, shown), api.OK}, refused{lines(hidden, shown, shown), api.ErrNone}, refused{lines(hidden, shown, hidden), api.OK}, refused{lines(question), api.OK})
			}
		}
	}
	testLast(t, append(all, []refused{
		{lines("ask 1 2 1000 0"), api.OK}, {lines("ask 1 2 1001 0"), api.ErrRange}, {lines("ask 1 2 0 1001"), api.ErrRange}, {lines("ask 1 2 -1 0"), api.ErrRange}, {lines("ask 1 2 0 -1"), api.ErrRange}, {lines("ask 2 2 0 -1"), api.ErrNone}, {lines("ask 1 3 1001 0"), api.ErrNone},
		{asked, api.OK}, {then(asked, "ask 1 1 0 0"), api.ErrLimit}, {then(asked, "ask 1 1 0 1001"), api.ErrRange}, {then(asked, "ask 1 3 0 0"), api.ErrNone}, {times(8, "ask 0 0 1 0"), api.OK},
		{lines("publish"), api.OK}, {times(2, "publish"), api.OK}, {asked[:1], api.OK}, {then(asked[:1], "publish"), api.OK}, {then(asked[:2], "publish"), api.ErrSecret}, {example("publish"), api.OK}, {example("ask 0 2 1 0", "publish"), api.OK}, {example("ask 0 2 2 0", "publish"), api.ErrSecret},
		{lines("hide 0 0", "hide 0 1", "hide 0 2", "hide 1 0", "hide 1 1", "hide 1 2", "ask 0 0 0 1", "publish"), api.ErrSecret},
		{lines("rule 1 0 0"), api.OK}, {lines("rule 5 60 10000"), api.OK}, {lines("rule 0 5 0"), api.ErrRange}, {lines("rule 6 5 0"), api.ErrRange}, {lines("rule -1 5 0"), api.ErrRange}, {lines("rule 256 5 0"), api.ErrRange}, {lines("rule 257 5 0"), api.ErrRange}, {lines("rule -255 5 0"), api.ErrRange}, {lines("rule 65537 5 0"), api.ErrRange}, {lines("rule -254 5 0"), api.ErrRange},
		{lines("rule 2 -1 0"), api.ErrRange}, {lines("rule 2 61 0"), api.ErrRange}, {lines("rule 2 5 -1"), api.ErrRange}, {lines("rule 2 5 10001"), api.ErrRange}, {example("rule 3 3 3"), api.OK},
	}...))
}

// P12.1: lines that have the form of no word are refused before anything else is asked.
func TestForms(t *testing.T) {
	right := lines("entry 0 0 50 5 5", "drop 9", "age 0 5 5", "same 0 1", "apart 0 1", "omitted 0 0", "number 0 200", "hide 0 0", "show 0 0", "ask 0 0 0 0", "publish", "rule 2 5 0")
	var all []refused
	for _, line := range right {
		for _, wrong := range lines(line+" ", line+" 0", line+"\n", line+"\x00", line+" a", " "+line, "\n"+line, "\ufeff"+line, "X"+line[1:], "x"+line, line+"x", line+".", line+" 1000000000", line[:len(line)-1], line+" -") {
			// Without its last byte a number can have its form still.
			if word, _ := wordOf(wrong); word == "" {
				all = append(all, refused{ten(wrong), api.ErrForm})
			}
		}
	}
	for _, number := range lines("", "-", "-0", "+0", "+1", "00", "01", "-01", "--1", "1-", "0x1", "1_0", "1e1", "1.0", "0 0", " 0", "\t0", "0\t", "0\r", "a", "1000000000", "-1000000000", "0000000000", "0000000001", "9223372036854775808", "-9223372036854775809", "18446744073709551616", "99999999999999999999", "\xd9\xa1", "\xef\xbc\x91", "\xff") {
		for _, line := range lines("drop "+number, "age "+number+" 99 0", "age 99 99 "+number, "hide 99 "+number, "rule 9 "+number+" 0") {
			all = append(all, refused{ten(line), api.ErrForm})
		}
	}
	for _, line := range lines("", " ", "  ", "x", "0", "dropped 0", "DROP 0", "Drop 0", "dro 0", "drop", "drop\t0", "drop,0", "drop0", "entry 0 0 50 5", "entry 0 0 50 5 5 5", "entry  0 0 50 5 5", "entry 0 0  50 5 5", "play", "state", "settle", "isEntry", "census", "own", "drop 0\ndrop 0", "hide 0 0 ", "publish 0", "publish ", "publish\n", "{001;00322}a\n", string(make([]byte, 200))) {
		all = append(all, refused{ten(line), api.ErrForm}, refused{lines(line), api.ErrForm})
	}
	all = append(all, refused{ten("drop 123456789"), api.ErrNone}, refused{ten("drop 999999999"), api.ErrNone}, refused{ten("drop -999999999"), api.ErrNone}, refused{ten("drop -1"), api.ErrNone}, refused{ten("omitted 0 -100000000"), api.ErrRange}, refused{ten("drop 0"), api.OK})
	testLast(t, all)
}

// P12.1: what accepted lines make of the state.
func TestStates(t *testing.T) {
	s, l := beginning(), lines()
	for _, x := range []struct {
		line string
		do   func()
	}{
		{"entry 9 1 99 0 120", func() { s.Entries = append(s.Entries, entry(9, 1, 99, 0, 120)) }},
		{"entry 1 0 5 33 36", func() { s.Entries = append(s.Entries, entry(1, 0, 5, 33, 36)) }},
		{"entry 2 0 5 30 34", func() { s.Entries = append(s.Entries, entry(2, 0, 5, 30, 34)) }},
		{"entry 4 0 5 34 40", func() { s.Entries = append(s.Entries, entry(4, 0, 5, 34, 40)) }},
		{"entry 8 0 6 34 40", func() { s.Entries = append(s.Entries, entry(8, 0, 6, 34, 40)) }},
		{"same 3 2", func() { s.Same = append(s.Same, pair(3, 2)) }},
		{"same 1 2", func() { s.Same = append(s.Same, pair(1, 2)) }},
		{"apart 4 3", func() { s.Apart = append(s.Apart, pair(4, 3)) }},
		{"apart 0 4", func() { s.Apart = append(s.Apart, pair(0, 4)) }},
		{"age 1 34 35", func() { s.Entries[1].Ages = to(34, 35) }},
		{"omitted 1 6", func() { s.Omitted = to(1, 6) }},
		{"number 4 7", func() { s.Number = to(4, 7) }},
		{"hide 1 2", func() { s.Hidden = []hide.Cell{at(1, 2)} }},
		{"hide 0 1", func() { s.Hidden = []hide.Cell{at(0, 1), at(1, 2)} }},
		{"hide 1 0", func() { s.Hidden = []hide.Cell{at(0, 1), at(1, 0), at(1, 2)} }},
		{"hide 0 0", func() { s.Hidden = []hide.Cell{at(0, 0), at(0, 1), at(1, 0), at(1, 2)} }},
		{"show 1 2", func() { s.Hidden = []hide.Cell{at(0, 0), at(0, 1), at(1, 0)} }},
		{"show 1 0", func() { s.Hidden = []hide.Cell{at(0, 0), at(0, 1)} }},
		{"ask 0 1 1 0", func() { s.Requests = []hide.Request{request(0, 1, 1, 0)} }},
		{"ask 1 0 1 0", func() { s.Requests = append(s.Requests, request(1, 0, 1, 0)) }},
		{"publish", func() { s.Hidden = []hide.Cell{at(0, 0), at(0, 1), at(1, 0), at(1, 1)} }},
		{"rule 5 60 10000", func() { s.Rule = seat.Rule{Method: seat.Remainder, Seats: 60, Least: 10000} }},
		{"drop 1", func() {
			s.Entries = slices.Delete(s.Entries, 1, 2)
			s.Same, s.Apart = []sheet.Pair{pair(2, 1)}, []sheet.Pair{pair(3, 2), pair(0, 3)}
		}},
		{"drop 3", func() { s.Entries, s.Apart = s.Entries[:3], nil }},
		{"drop 0", func() { s.Entries, s.Same = slices.Clone(s.Entries[1:]), []sheet.Pair{pair(1, 0)} }},
	} {
		x.do()
		l = append(l, x.line)
		if got, errors := play(t, l); errors[len(l)-1] != api.OK || !sameState(got, s) {
			t.Fatalf("Play of .. %q: %v; %v, not %v", x.line, errors, got, s)
		}
	}
}

// P12.1: TestPlayByDefinition compares with the chapter's table.
func TestPlayByDefinition(t *testing.T) {
	type outcome struct {
		word string
		e    api.Errno
	}
	count := map[outcome]int{}
	forSessions(t, 4000, 50, func(t *testing.T, d *dice, l []string) {
		p := newPlayer()
		var want []api.Errno
		for _, line := range l {
			e := p.execute(line)
			want = append(want, e)
			word, _ := wordOf(line)
			count[outcome{word, e}]++
		}
		if s, errors := play(t, l); !slices.Equal(errors, want) || !sameState(s, p.State) {
			t.Errorf("Play of %q: %v, %v, not %v, %v", l, s, errors, p.State, want)
		}
	})
	for word, all := range map[string][]api.Errno{
		"": errs(api.ErrForm), "entry": errs(api.OK, api.ErrRange, api.ErrLimit, api.ErrFail), "drop": errs(api.OK, api.ErrNone, api.ErrFail), "age": errs(api.OK, api.ErrNone, api.ErrRange, api.ErrFail),
		"same": errs(api.OK, api.ErrNone, api.ErrTwice, api.ErrFail), "apart": errs(api.OK, api.ErrNone, api.ErrTwice, api.ErrLimit, api.ErrFail), "omitted": errs(api.OK, api.ErrRange, api.ErrFail), "number": errs(api.OK, api.ErrRange, api.ErrFail),
		"hide": errs(api.OK, api.ErrNone, api.ErrTwice), "show": errs(api.OK, api.ErrNone), "ask": errs(api.OK, api.ErrNone, api.ErrRange, api.ErrLimit), "publish": errs(api.OK, api.ErrSecret), "rule": errs(api.OK, api.ErrRange),
	} {
		for _, e := range all {
			if count[outcome{word, e}] < 20 {
				t.Errorf("only %d lines %q with %v", count[outcome{word, e}], word, e)
			}
		}
	}
}

// P12.2 to P12.5: TestToldByDefinition compares with what the lower layers say, and with all assignments.
func TestToldByDefinition(t *testing.T) {
	ties, exposed, open, several := 0, 0, 0, 0
	forSessions(t, 900, 50, func(t *testing.T, d *dice, l []string) {
		s, _ := play(t, l)
		want := toldOf(s)
		if x := toldBy(t, l); !same(x, want) {
			t.Errorf("Persons, Ranges, Seats, Exposed of %q: %v, not %v", l, x, want)
		}
		if p, o, e := sheet.Persons(censusOf(s)); p != want.persons || o != want.omitted || e != api.OK {
			t.Errorf("sheet.Persons after %q: %v, %v, %v, not %v", l, p, o, e, want)
		}
		if text, e := book.Report(l); text != reportOf(s, want) || e != api.OK {
			t.Errorf("Report of %q: %q, %v, not %q", l, text, e, reportOf(s, want))
		}
		if want.tie != api.OK {
			ties++
		}
		if want.none == api.OK {
			exposed++
			if want.exposed > 0 {
				several++
			}
		} else if len(s.Requests) > 0 {
			open++
		}
	})
	if ties < 50 || exposed < 100 || open < 50 || several < 20 {
		t.Errorf("only %d ties, %d sessions with an exposed request, %d of them not the first one, %d with satisfied ones", ties, exposed, several, open)
	}
}

// P12.5: reports of numbers with several digits.
func TestReport(t *testing.T) {
	more := lines("omitted 3 40", "number 12 45", "rule 2 60 0", "hide 0 0", "hide 1 0", "ask 0 1 0 0", "ask 0 0 0 0", "ask 0 0 1 0")
	want := "entries 10 persons 10..10 omitted 3..35\ntable 4 3 3 0 0 0\nranges 4..4 3..3 3..3 0..0 0..0 0..0\nseats 24 18 18\nexposed 2\n"
	if s, e := book.Report(ten(more...)); s != want || e != api.OK {
		t.Errorf("Report: %q, %v", s, e)
	}
	wide := lines("entry 0 0 0 0 0", "entry 1 1 0 0 0", "hide 0 0", "hide 0 1", "hide 1 0", "hide 1 1", "ask 0 0 1 0", "ask 1 1 0 1")
	want = "entries 2 persons 2..2 omitted 0..0\ntable 1 0 0 0 1 0\nranges 0..1 0..1 0..0 0..1 0..1 0..0\nseats tie\nexposed 1\n"
	if s, e := book.Report(wide); s != want || e != api.OK {
		t.Errorf("Report: %q, %v", s, e)
	}
}

// P12.4: by Least, and by nobody's votes, districts can be without seats.
func TestSeats(t *testing.T) {
	for _, x := range []struct {
		l    []string
		want []int
		e    api.Errno
	}{
		{nil, list(0, 0, 0), api.OK}, {lines("entry 4 0 0 0 0"), list(0, 5, 0), api.OK}, {lines("entry 4 0 0 0 0", "rule 2 5 2"), list(0, 0, 0), api.OK}, {lines("entry 5 0 0 0 0", "entry 8 1 0 0 0", "entry 9 1 0 0 0", "rule 2 7 2"), list(0, 0, 7), api.OK},
		{lines("entry 5 0 0 0 0", "entry 8 1 0 0 0", "entry 9 1 0 0 0"), nil, api.ErrTie}, {ten(), list(2, 2, 1), api.ErrTie}, {ten("rule 2 10 0"), list(4, 3, 3), api.OK}, {ten("rule 5 10 0"), list(4, 3, 3), api.OK}, {ten("rule 1 1 0"), list(1, 0, 0), api.OK}, {ten("rule 2 0 0"), list(0, 0, 0), api.OK},
	} {
		if x.e != api.OK {
			x.want = nil
		}
		if l, e := book.Seats(x.l); !slices.Equal(l, x.want) || e != x.e {
			t.Errorf("Seats of %q: %v, %v", x.l, l, e)
		}
	}
}
