package book_test

import (
	"fmt"
	"slices"
	"strings"
	"testing"

	"tithing/api"
	"tithing/book"
	"tithing/sheet"
)

// P12.8, P8: the accepted lines alone make the same state, and so do they after each refused line.
func TestAgain(t *testing.T) {
	some := 0
	forSessions(t, 1000, 50, func(t *testing.T, d *dice, l []string) {
		s, errors := play(t, l)
		kept := accepted(t, l)
		again, all := play(t, kept)
		if !sameState(s, again) || slices.ContainsFunc(all, func(e api.Errno) bool { return e != api.OK }) {
			t.Errorf("Play of %q: %v; of those that are accepted: %v, %v", l, s, again, all)
		}
		// Without any one of the refused lines all others have their errors still.
		if i := slices.IndexFunc(errors, func(e api.Errno) bool { return e != api.OK }); i >= 0 {
			less, others := play(t, slices.Delete(slices.Clone(l), i, i+1))
			if !sameState(s, less) || !slices.Equal(others, slices.Delete(slices.Clone(errors), i, i+1)) {
				t.Errorf("Play of %q without the line %d: %v, %v, not %v, %v", l, i, less, others, s, errors)
			}
		}
		if len(kept) > 10 && len(kept) < len(l) {
			some++
		}
	})
	if some < 300 {
		t.Errorf("only %d sessions", some)
	}
}

// P12.8: after each line the state is the one before it, or the line is accepted.
func TestRefusedLines(t *testing.T) {
	refused := 0
	forSessions(t, 60, 50, func(t *testing.T, d *dice, l []string) {
		before, _ := play(t, nil)
		_, all := play(t, l)
		for i := range l {
			s, errors := play(t, l[:i+1])
			if !slices.Equal(errors, all[:i+1]) {
				t.Fatalf("Play of %q: %v, not %v", l[:i+1], errors, all[:i+1])
			}
			if errors[i] != api.OK {
				refused++
				if !sameState(s, before) {
					t.Fatalf("Play of %q: %v, before %v", l[:i+1], s, before)
				}
			}
			before = s
		}
	})
	if refused < 500 {
		t.Errorf("only %d refused lines", refused)
	}
}

// P12.9: after any lines the census is consistent.
func TestConsistent(t *testing.T) {
	refused, paired := 0, 0
	forSessions(t, 1500, 50, func(t *testing.T, d *dice, l []string) {
		s, errors := play(t, l)
		if _, _, e := sheet.Persons(censusOf(s)); e != api.OK || !isConsistent(s) {
			t.Errorf("Play of %q: %v, whose census is not consistent", l, s)
		}
		if slices.Contains(errors, api.ErrFail) {
			refused++
		}
		if len(s.Same) > 0 && len(s.Apart) > 0 {
			paired++
		}
	})
	if refused < 300 || paired < 100 {
		t.Errorf("only %d sessions with lines that fail, %d with pairs", refused, paired)
	}
}

// P12.10: what lines of each word do not change.
func TestWhatDepends(t *testing.T) {
	count := map[string]int{}
	forSessions(t, 500, 25, func(t *testing.T, d *dice, l []string) {
		s, _ := play(t, l)
		before := toldBy(t, l)
		for _, word := range lines("age", "same", "apart", "omitted", "number", "hide", "show", "ask", "publish", "rule") {
			line := d.line(word, len(s.Entries))
			more := append(slices.Clone(l), line)
			after := toldBy(t, more)
			if _, errors := play(t, more); errors[len(l)] != api.OK {
				if !same(before, after) {
					t.Errorf("%q: %v; after %q, which is refused: %v", l, before, line, after)
				}
				continue
			}
			count[word]++
			isOfCensus := strings.Contains(" age same apart omitted number ", " "+word+" ")
			if (isOfCensus || word == "rule") && !sameRows(before.ranges, after.ranges) {
				t.Errorf("Ranges of %q: %v; after %q: %v", l, before.ranges, line, after.ranges)
			}
			if word != "rule" && (!slices.Equal(before.seats, after.seats) || before.tie != after.tie) {
				t.Errorf("Seats of %q: %v; after %q: %v", l, before.seats, line, after.seats)
			}
			if !isOfCensus && (before.persons != after.persons || before.omitted != after.omitted) {
				t.Errorf("Persons of %q: %v, %v; after %q: %v, %v", l, before.persons, before.omitted, line, after.persons, after.omitted)
			}
		}
	})
	for _, word := range lines("age", "same", "apart", "omitted", "number", "hide", "show", "ask", "publish", "rule") {
		if count[word] < 15 {
			t.Errorf("only %d lines %q are accepted", count[word], word)
		}
	}
}

// P12.11, P4: the cells of the table, and the counts, add up to the number of entries.
func TestAllEntries(t *testing.T) {
	full := 0
	forSessions(t, 500, 30, func(t *testing.T, d *dice, l []string) {
		// Nothing is hidden, so that all ranges are the cells alone; with as many seats as entries, by Remainder, the seats are the counts.
		l = slices.DeleteFunc(slices.Clone(l), func(line string) bool {
			return strings.HasPrefix(line, "hide") || strings.HasPrefix(line, "publish")
		})
		s, _ := play(t, l)
		l = append(l, fmt.Sprintf("rule 5 %d 0", len(s.Entries)))
		ranges, e := book.Ranges(l)
		seats, f := book.Seats(l)
		text, g := book.Report(l)
		var sum, all int
		table := "\ntable"
		for _, row := range ranges {
			for _, r := range row {
				sum += r.Lo
				table += fmt.Sprintf(" %d", r.Lo)
			}
		}
		for _, n := range seats {
			all += n
		}
		if sum != len(s.Entries) || all != sum || e != api.OK || f != api.OK || len(ranges) != 2 || len(ranges[0]) != 3 || len(ranges[1]) != 3 {
			t.Errorf("Ranges, Seats of %q: %v, %v; %v, %v", l, ranges, e, seats, f)
		}
		if !strings.HasPrefix(text, fmt.Sprintf("entries %d ", sum)) || !strings.Contains(text, table+"\n") || g != api.OK {
			t.Errorf("Report of %q: %q, %v", l, text, g)
		}
		if sum > 5 {
			full++
		}
	})
	if full < 100 {
		t.Errorf("only %d sessions with many entries", full)
	}
}

// P12.12: an entry that is accepted, and dropped by the next line.
func TestDropped(t *testing.T) {
	dropped, paired := 0, 0
	forSessions(t, 1000, 48, func(t *testing.T, d *dice, l []string) {
		before, _ := play(t, l)
		for range 3 {
			line := d.line("entry", 0)
			more := append(slices.Clone(l), line, fmt.Sprintf("drop %d", len(before.Entries)))
			s, errors := play(t, more)
			if errors[len(l)] != api.OK {
				continue
			}
			dropped++
			if errors[len(l)+1] != api.OK || !sameState(s, before) {
				t.Errorf("Play of %q: %v, %v, not %v", more, s, errors, before)
			}
			if len(s.Same)+len(s.Apart) > 1 {
				paired++
			}
		}
	})
	if dropped < 500 || paired < 100 {
		t.Errorf("only %d entries are dropped, %d of them beside pairs", dropped, paired)
	}
}

// P12.13: directly after an accepted line publish.
func TestPublished(t *testing.T) {
	newly, further, secret := 0, 0, 0
	forSessions(t, 1500, 49, func(t *testing.T, d *dice, l []string) {
		before, _ := play(t, l)
		_, exposed := book.Exposed(l)
		more := append(slices.Clone(l), "publish")
		s, errors := play(t, more)
		if errors[len(l)] != api.OK {
			if errors[len(l)] != api.ErrSecret || exposed != api.OK {
				t.Errorf("Play of %q: %v", more, errors)
			}
			secret++
			return
		}
		if n, e := book.Exposed(more); n != 0 || e != api.ErrNone {
			t.Errorf("Exposed of %q: %d, %v", more, n, e)
		}
		for _, c := range before.Hidden {
			if !slices.Contains(s.Hidden, c) {
				t.Errorf("Play of %q: %v, before %v", more, s.Hidden, before.Hidden)
			}
		}
		if exposed == api.OK {
			newly++
		}
		if len(before.Hidden) > 0 && len(s.Hidden) > len(before.Hidden) {
			further++
		}
	})
	if newly < 20 || further < 20 || secret < 100 {
		t.Errorf("only %d sessions are exposed before, %d have further hidden cells, %d have none", newly, further, secret)
	}
}

// P12.14, P8: the file of lines, and its first bytes.
func TestFirstBytes(t *testing.T) {
	d := dice(3)
	for range 40 {
		l := d.anyLines(12)
		b := write(t, l)
		if got, n := book.Recover(b); !slices.Equal(got, l) || n != len(b) {
			t.Fatalf("Recover of the file of %q: %q, %d", l, got, n)
		}
		complete := 0
		for i := range len(b) + 1 {
			for complete < len(l) && len(fileOf(l[:complete+1])) <= i {
				complete++
			}
			if got, n := book.Recover(b[:i]); !slices.Equal(got, l[:complete]) || n != len(fileOf(l[:complete])) {
				t.Fatalf("Recover of the first %d bytes of the file of %q: %q, %d", i, l, got, n)
			}
		}
		if complete != len(l) {
			t.Fatalf("only %d of %d records", complete, len(l))
		}
	}
}

// P12.14: no record is read at another place of a file than its own.
func TestOtherPlaces(t *testing.T) {
	d := dice(4)
	for range 300 {
		l := d.anyLines(50)
		var all []string
		for i, line := range l {
			all = append(all, recordOf(i, line))
		}
		for i := range all {
			// The file without a record, with one twice, and with two exchanged.
			j := d.upTo(len(all) - 1)
			first, second := min(i, j), max(i, j)
			without := strings.Join(slices.Delete(slices.Clone(all), i, i+1), "")
			twice := strings.Join(slices.Insert(slices.Clone(all), second, all[first]), "")
			turned := slices.Clone(all)
			turned[i], turned[j] = turned[j], turned[i]
			for file, complete := range map[string]int{without: i, twice: second, strings.Join(turned, ""): first} {
				if first == second && file != without {
					continue
				}
				if got, n := book.Recover([]byte(file)); !slices.Equal(got, l[:complete]) || n != len(strings.Join(all[:complete], "")) {
					t.Fatalf("Recover of the file of %q, with %d and %d moved: %q, %d", l, i, j, got, n)
				}
			}
			if got, n := book.Recover([]byte(strings.Join(all[i:], ""))); i > 0 && (got != nil || n != 0) {
				t.Fatalf("Recover of the file of %q from the record %d on: %q, %d", l, i, got, n)
			}
		}
	}
}

// P12.15: a file of accepted lines that is cut off anywhere, and resumed.
func TestAsIfNothingHadBeen(t *testing.T) {
	many := 0
	forSessions(t, 10, 50, func(t *testing.T, d *dice, l []string) {
		kept := accepted(t, l)
		b := write(t, kept)
		if f, e := book.Resume(nil, l); string(f) != string(b) || e != api.OK {
			t.Errorf("Resume of no bytes, with %q: %q, %v", l, f, e)
		}
		for i := range len(b) + 1 {
			left, _ := book.Recover(b[:i])
			f, e := book.Resume(b[:i], kept[len(left):])
			if string(f) != string(b) || e != api.OK {
				t.Fatalf("Resume of the first %d bytes of the file of %q: %q, %v", i, kept, f, e)
			}
		}
		if len(kept) > 10 {
			many++
		}
	})
	if many < 8 {
		t.Errorf("only %d sessions", many)
	}
}

// P7: in another order entries and requests lead to the same numbers.
func TestAnyOrder(t *testing.T) {
	d := dice(5)
	for range 300 {
		var entries, asks []string
		for range d.from(1, 10) {
			entries = append(entries, fmt.Sprintf("entry %d %d 5 %d 30", d.upTo(4), d.upTo(1), d.from(20, 30)))
		}
		for range d.upTo(3) {
			asks = append(asks, fmt.Sprintf("ask %d %d %d 0", d.upTo(1), d.upTo(2), d.upTo(1)))
		}
		a := append(slices.Concat(entries, asks), "publish")
		slices.Reverse(entries)
		slices.Reverse(asks)
		b := append(slices.Concat(entries, asks), "publish")
		x, y := toldBy(t, a), toldBy(t, b)
		if x.persons != y.persons || x.omitted != y.omitted || !sameRows(x.ranges, y.ranges) || !slices.Equal(x.seats, y.seats) || x.tie != y.tie || x.none != y.none {
			t.Fatalf("%q: %v; %q: %v", a, x, b, y)
		}
	}
}
