package book_test

import (
	"fmt"
	"regexp"
	"slices"
	"strconv"
	"strings"
	"testing"

	"tithing/api"
	"tithing/book"
	"tithing/hide"
	"tithing/seat"
	"tithing/sheet"
)

func to(low, high int) sheet.Range { return sheet.Range{Lo: low, Hi: high} }

func at(row, column int) hide.Cell { return hide.Cell{Row: row, Column: column} }

func pair(a, b int) sheet.Pair { return sheet.Pair{First: a, Second: b} }

func list(l ...int) []int { return l }

func lines(l ...string) []string { return l }

func errs(l ...api.Errno) []api.Errno { return l }

// times returns the list so many times.
func times(many int, l ...string) []string { return slices.Repeat(l, many) }

func entry(schedule, sex, key, low, high int) sheet.Entry {
	return sheet.Entry{Schedule: schedule, Sex: sex, Key: key, Ages: to(low, high)}
}

func request(row, column, below, above int) hide.Request {
	return hide.Request{Cell: at(row, column), Below: below, Above: above}
}

// example is the session of the chapter's examples, with more lines.
func example(more ...string) []string {
	return append(lines("entry 0 0 5 30 34", "entry 1 0 5 33 36", "entry 2 0 5 35 40", "entry 1 1 7 20 20", "number 3 4", "same 0 1", "hide 0 0", "ask 0 0 1 0", "publish", "rule 2 4 0"), more...)
}

// ten makes ten entries that are ten persons, with more lines.
func ten(more ...string) []string {
	var l []string
	for n := range 10 {
		l = append(l, fmt.Sprintf("entry %d 0 %d 5 5", n, n))
	}
	return append(l, more...)
}

func sameRows[T comparable](a, b [][]T) bool { return slices.EqualFunc(a, b, slices.Equal) }

func sameState(a, b book.State) bool {
	return slices.Equal(a.Entries, b.Entries) && slices.Equal(a.Same, b.Same) && slices.Equal(a.Apart, b.Apart) && a.Omitted == b.Omitted && a.Number == b.Number &&
		slices.Equal(a.Hidden, b.Hidden) && slices.Equal(a.Requests, b.Requests) && a.Rule == b.Rule
}

func copyOf(s book.State) book.State {
	s.Entries, s.Same, s.Apart = slices.Clone(s.Entries), slices.Clone(s.Same), slices.Clone(s.Apart)
	s.Hidden, s.Requests = slices.Clone(s.Hidden), slices.Clone(s.Requests)
	return s
}

// beginning is the state before all lines.
func beginning() book.State {
	return book.State{Number: to(0, 200), Rule: seat.Rule{Method: seat.Hondt, Seats: 5}}
}

func censusOf(s book.State) sheet.Census {
	return sheet.Census{Entries: s.Entries, Same: s.Same, Apart: s.Apart, Omitted: s.Omitted, Number: s.Number}
}

func tableOf(s book.State) hide.Table {
	var cells [2][3]int
	for _, x := range s.Entries {
		cells[x.Sex][x.Schedule%3]++
	}
	return hide.Table{Rows: [][]int{cells[0][:], cells[1][:]}, Cap: 50}
}

func countsOf(s book.State) []int {
	var counts [3]int
	for _, x := range s.Entries {
		counts[x.Schedule%3]++
	}
	return counts[:]
}

// told is what the book tells of a state.
type told struct {
	persons, omitted sheet.Range
	ranges           [][]hide.Range
	seats            []int
	tie              api.Errno
	exposed          int
	none             api.Errno
}

func same(a, b told) bool {
	return a.persons == b.persons && a.omitted == b.omitted && sameRows(a.ranges, b.ranges) && slices.Equal(a.seats, b.seats) && a.tie == b.tie && a.exposed == b.exposed && a.none == b.none
}

// toldOf asks the lower layers about the state.
func toldOf(s book.State) told {
	var x told
	x.persons, x.omitted = personsOf(s)
	x.ranges, _ = hide.Ranges(tableOf(s), s.Hidden)
	x.seats, x.tie = seat.Seats(s.Rule, countsOf(s))
	x.exposed, x.none = hide.Exposed(tableOf(s), s.Hidden, s.Requests)
	return x
}

// toldBy asks the book.
func toldBy(t *testing.T, l []string) told {
	t.Helper()
	var x told
	var e, f api.Errno
	x.persons, x.omitted, e = book.Persons(l)
	x.ranges, f = book.Ranges(l)
	x.seats, x.tie = book.Seats(l)
	x.exposed, x.none = book.Exposed(l)
	if e != api.OK || f != api.OK || x.tie != api.OK && x.tie != api.ErrTie || x.none != api.OK && x.none != api.ErrNone {
		t.Fatalf("Persons, Ranges, Seats, Exposed of %q: %v, %v, %v, %v", l, e, f, x.tie, x.none)
	}
	return x
}

// reportOf is the report of what is told.
func reportOf(s book.State, x told) string {
	var table, ranges string
	for i, row := range tableOf(s).Rows {
		for j, n := range row {
			table += fmt.Sprintf(" %d", n)
			ranges += fmt.Sprintf(" %d..%d", x.ranges[i][j].Lo, x.ranges[i][j].Hi)
		}
	}
	seats, exposed := " tie", " none"
	if x.tie == api.OK {
		seats = fmt.Sprintf(" %d %d %d", x.seats[0], x.seats[1], x.seats[2])
	}
	if x.none == api.OK {
		exposed = fmt.Sprintf(" %d", x.exposed)
	}
	return fmt.Sprintf("entries %d persons %d..%d omitted %d..%d\ntable%s\nranges%s\nseats%s\nexposed%s\n", len(s.Entries), x.persons.Lo, x.persons.Hi, x.omitted.Lo, x.omitted.Hi, table, ranges, seats, exposed)
}

// canBe reports whether the two entries of the state can be one person.
func canBe(s book.State, a, b int) bool {
	x, y := s.Entries[a], s.Entries[b]
	if slices.Contains(s.Apart, pair(a, b)) || slices.Contains(s.Apart, pair(b, a)) {
		return false
	}
	return x.Schedule != y.Schedule && x.Sex == y.Sex && x.Key == y.Key && x.Ages.Lo <= y.Ages.Hi && y.Ages.Lo <= x.Ages.Hi
}

// numbersOf returns how many persons there can be, whatever Omitted and Number say: all assignments are tried.
func numbersOf(s book.State) map[int]bool {
	numbers := map[int]bool{}
	of := make([]int, len(s.Entries))
	fits := func(n, person int) bool {
		for other := range n {
			if of[other] == person && !canBe(s, n, other) {
				return false
			}
		}
		return true
	}
	var place func(n, persons int)
	place = func(n, persons int) {
		if n == len(of) {
			if !slices.ContainsFunc(s.Same, func(p sheet.Pair) bool { return of[p.First] != of[p.Second] }) {
				numbers[persons] = true
			}
			return
		}
		for person := range persons + 1 {
			if fits(n, person) {
				of[n] = person
				place(n+1, max(persons, person+1))
			}
		}
	}
	place(0, 0)
	return numbers
}

// personsOf returns both ranges of the census; they end before they begin if it is not consistent.
func personsOf(s book.State) (persons, omitted sheet.Range) {
	persons, omitted = to(1000, -1), to(1000, -1)
	for n := range numbersOf(s) {
		for o := s.Omitted.Lo; o <= s.Omitted.Hi; o++ {
			if s.Number.Lo <= n+o && n+o <= s.Number.Hi {
				persons = to(min(persons.Lo, n), max(persons.Hi, n))
				omitted = to(min(omitted.Lo, o), max(omitted.Hi, o))
			}
		}
	}
	return persons, omitted
}

func isConsistent(s book.State) bool {
	persons, _ := personsOf(s)
	return persons.Lo <= persons.Hi
}

// player executes lines by the chapter's table.
type player struct {
	book.State
	known map[string]bool // whether censuses are consistent
}

func newPlayer() *player { return &player{beginning(), map[string]bool{}} }

// formOf takes a line into parts: "0" and numbers that do not begin with it, of at most 9 digits.
var formOf = regexp.MustCompile(`\A([a-z]+)((?: (?:0|-?[1-9][0-9]{0,8}))*)\z`)

// numbersAfter tells how many numbers follow each word.
var numbersAfter = map[string]int{"entry": 5, "drop": 1, "age": 3, "same": 2, "apart": 2, "omitted": 2, "number": 2, "hide": 2, "show": 2, "ask": 4, "publish": 0, "rule": 3}

// wordOf returns the word whose form the line has, with the numbers, or "".
func wordOf(line string) (string, []int) {
	parts := formOf.FindStringSubmatch(line)
	if parts == nil {
		return "", nil
	}
	var n []int
	for _, text := range strings.Fields(parts[2]) {
		x, _ := strconv.Atoi(text)
		n = append(n, x)
	}
	many, is := numbersAfter[parts[1]]
	if !is || many != len(n) {
		return "", nil
	}
	return parts[1], n
}

// execute executes the line, and returns its error.
func (p *player) execute(line string) api.Errno {
	before := copyOf(p.State)
	e := p.change(wordOf(line))
	if e == api.OK && !p.holds() {
		e = api.ErrFail
	}
	if e != api.OK {
		p.State = before
	}
	return e
}

func (p *player) holds() bool {
	key := fmt.Sprint(censusOf(p.State))
	is, known := p.known[key]
	if !known {
		is = isConsistent(p.State)
		p.known[key] = is
	}
	return is
}

func (p *player) lacks(n ...int) bool {
	return slices.Min(n) < 0 || slices.Max(n) >= len(p.Entries)
}

func isRange(low, high, most int) bool { return 0 <= low && low <= high && high <= most }

func lacksCell(row, column int) bool { return row < 0 || row > 1 || column < 0 || column > 2 }

// change changes the state, whether the census is consistent then or not.
func (p *player) change(word string, n []int) api.Errno {
	switch word {
	case "":
		return api.ErrForm
	case "entry":
		if n[0] < 0 || n[0] > 9 || n[1] < 0 || n[1] > 1 || n[2] < 0 || n[2] > 99 || !isRange(n[3], n[4], 120) {
			return api.ErrRange
		}
		p.Entries = append(p.Entries, entry(n[0], n[1], n[2], n[3], n[4]))
		if len(p.Entries) > 10 {
			return api.ErrLimit
		}
	case "drop", "age":
		return p.changeEntry(word, n)
	case "same":
		return p.pair(n[0], n[1], &p.Same)
	case "apart":
		return p.pair(n[0], n[1], &p.Apart)
	case "omitted":
		p.Omitted = to(n[0], n[1])
		if !isRange(n[0], n[1], 100) {
			return api.ErrRange
		}
	case "number":
		p.Number = to(n[0], n[1])
		if !isRange(n[0], n[1], 200) {
			return api.ErrRange
		}
	case "rule":
		if n[0] < 1 || n[0] > 5 || !isRange(0, n[1], 60) || !isRange(0, n[2], 10000) {
			return api.ErrRange
		}
		p.Rule = seat.Rule{Method: uint8(n[0]), Seats: n[1], Least: n[2]}
	default:
		return p.changeTable(word, n)
	}
	return api.OK
}

func (p *player) changeEntry(word string, n []int) api.Errno {
	switch {
	case p.lacks(n[0]):
		return api.ErrNone
	case word == "age":
		p.Entries[n[0]].Ages = to(n[1], n[2])
		if !isRange(n[1], n[2], 120) {
			return api.ErrRange
		}
		return api.OK
	}
	p.Entries = slices.Delete(p.Entries, n[0], n[0]+1)
	for _, l := range []*[]sheet.Pair{&p.Same, &p.Apart} {
		*l = slices.DeleteFunc(*l, func(x sheet.Pair) bool { return x.First == n[0] || x.Second == n[0] })
		for i := range *l {
			for _, end := range []*int{&(*l)[i].First, &(*l)[i].Second} {
				if *end > n[0] {
					*end--
				}
			}
		}
	}
	return api.OK
}

func (p *player) pair(a, b int, l *[]sheet.Pair) api.Errno {
	if p.lacks(a, b) {
		return api.ErrNone
	}
	for _, x := range slices.Concat(p.Same, p.Apart, []sheet.Pair{pair(a, a), pair(b, b)}) {
		if x == pair(a, b) || x == pair(b, a) {
			return api.ErrTwice
		}
	}
	if len(*l) == 6 {
		return api.ErrLimit
	}
	*l = append(*l, pair(a, b))
	return api.OK
}

func (p *player) changeTable(word string, n []int) api.Errno {
	if word == "publish" {
		set, e := hide.Hide(tableOf(p.State), p.Hidden, p.Requests)
		p.Hidden = set
		return e
	}
	c := at(n[0], n[1])
	i := slices.Index(p.Hidden, c)
	switch {
	case lacksCell(n[0], n[1]) || word == "show" && i < 0:
		return api.ErrNone
	case word == "show":
		p.Hidden = slices.Delete(p.Hidden, i, i+1)
	case word == "hide" && i >= 0:
		return api.ErrTwice
	case word == "hide":
		p.Hidden = append(p.Hidden, c)
		slices.SortFunc(p.Hidden, func(a, b hide.Cell) int { return 3*(a.Row-b.Row) + a.Column - b.Column })
	case !isRange(0, n[2], 1000) || !isRange(0, n[3], 1000):
		return api.ErrRange
	case len(p.Requests) == 8:
		return api.ErrLimit
	default:
		p.Requests = append(p.Requests, request(n[0], n[1], n[2], n[3]))
	}
	return api.OK
}

// dice are thrown in the same way in each run.
type dice uint64

func (d *dice) upTo(most int) int {
	*d = *d*6364136223846793005 + 1442695040888963407
	return int(uint64(*d)>>33) % (most + 1)
}

func (d *dice) from(low, high int) int { return low + d.upTo(high-low) }

// of returns one of the list.
func (d *dice) of(l ...int) int { return l[d.upTo(len(l)-1)] }

func (d *dice) word() string {
	return lines("entry", "entry", "entry", "entry", "drop", "age", "same", "same", "apart", "apart", "omitted", "number", "hide", "show", "ask", "publish", "rule")[d.upTo(16)]
}

// entry makes the number of an entry, of so many; a few are wrong.
func (d *dice) entry(many int) int {
	if d.upTo(14) == 0 {
		return d.of(-1, many, many+1, 999999999)
	}
	return d.upTo(max(many-1, 0))
}

// line makes a line of the word, with so many entries; most of its numbers are right.
func (d *dice) line(word string, many int) string {
	low, row, column := d.from(20, 26), d.of(0, 0, 0, 0, 1, 1, 1, 1, 2, -1), d.of(0, 0, 0, 1, 1, 1, 2, 2, 3, -1)
	switch word {
	case "entry":
		return fmt.Sprintf("entry %d %d %d %d %d", d.of(0, 0, 1, 1, 2, 2, 3, 4, 9, d.from(-1, 10)), d.of(0, 0, 0, 0, 1, 1, 1, 1, d.from(-1, 2)), d.of(5, 5, 5, 5, 7, 99, d.from(-1, 100)), low, low+d.of(0, 1, 3, 6, 6, d.from(-1, 101)))
	case "drop":
		return fmt.Sprintf("drop %d", d.entry(many))
	case "age":
		return fmt.Sprintf("age %d %d %d", d.entry(many), low, low+d.of(0, 3, 6, -1, d.from(-1, 101)))
	case "same", "apart":
		return fmt.Sprintf("%s %d %d", word, d.entry(many), d.entry(many))
	case "omitted":
		n := d.of(0, 0, 0, 1, 2, 98, -1)
		return fmt.Sprintf("omitted %d %d", n, n+d.of(0, 1, 2, 3, -1))
	case "number":
		n := d.of(0, 1, 2, 3, 4, 5, -1, 100, 199, many, many+1)
		return fmt.Sprintf("number %d %d", n, n+d.of(0, 1, 2, 3, 4, 90, 101, -1))
	case "hide", "show":
		return fmt.Sprintf("%s %d %d", word, row, column)
	case "ask":
		return fmt.Sprintf("ask %d %d %d %d", row, column, d.of(0, 0, 0, 0, 1, 1, 2, 1000, d.of(-1, 1001)), d.of(0, 0, 0, 0, 0, 1, 1, 1000, d.of(-1, 1001)))
	case "rule":
		return fmt.Sprintf("rule %d %d %d", d.of(1, 2, 3, 4, 5, 5, 0, 6, 257, 261, -251), d.of(0, 1, 2, 3, 4, 5, 7, 7, 60, 61, -1), d.of(0, 0, 0, 0, 1, 2, 3, 10000, d.of(-1, 10001)))
	}
	return word
}

// spoilt changes a byte of the line, or adds or removes one.
func (d *dice) spoilt(line string) string {
	const some = " 0-+9a\n\x00\xff"
	c, n := some[d.upTo(len(some)-1):][:1], d.upTo(len(line))
	switch rest := line[n:]; d.upTo(2) {
	case 0:
		return line[:n] + c + rest
	case 1:
		return line[:n] + rest[min(1, len(rest)):]
	default:
		return line[:n] + c + rest[min(1, len(rest)):]
	}
}

// session makes so many lines; some sessions have many lines of one word.
func (d *dice) session(many int) []string {
	favorite, part := d.word(), d.of(0, 0, 1, 5)
	p := newPlayer()
	var l []string
	for range many {
		word := d.word()
		if d.upTo(9) < part {
			word = favorite
		}
		line := d.line(word, len(p.Entries))
		if d.upTo(29) == 0 {
			line = d.spoilt(line)
		}
		p.execute(line)
		l = append(l, line)
	}
	return l
}

// fixed are sessions of this file, and some others.
func fixed() [][]string {
	return [][]string{
		nil, lines("publish"), example(), example("drop 0"), example("ask 0 2 1 0"), example("ask 0 0 0 1", "publish"), example("same 0 2", "apart 1 0", "drop 3", "number 2 4", "drop 3"),
		ten(), ten("apart 0 1", "entry 0 0 5 5 5", "hide 1 2", "hide 0 1", "ask 0 0 4 4", "publish", "rule 3 7 3"), lines("", "x", "hide 0 0", "hide 0 0", "rule 2 3 0"),
	}
}

// forSessions calls check with the sessions of this file, and with so many others, of up to most lines.
func forSessions(t *testing.T, many, most int, check func(t *testing.T, d *dice, l []string)) {
	t.Helper()
	d := dice(1)
	for _, l := range fixed() {
		check(t, &d, l)
	}
	for range many {
		check(t, &d, d.session(d.of(most, d.upTo(most))))
		if t.Failed() {
			return
		}
	}
}

func play(t *testing.T, l []string) (book.State, []api.Errno) {
	t.Helper()
	s, errors, e := book.Play(l)
	if e != api.OK || len(errors) != len(l) {
		t.Fatalf("Play of %q: %v, %v", l, errors, e)
	}
	return s, errors
}

// accepted returns the lines that Play accepts.
func accepted(t *testing.T, l []string) []string {
	t.Helper()
	_, errors := play(t, l)
	var out []string
	for i, line := range l {
		if errors[i] == api.OK {
			out = append(out, line)
		}
	}
	return out
}

// write returns the file that Write makes.
func write(t *testing.T, l []string) []byte {
	t.Helper()
	b, e := book.Write(l)
	if e != api.OK {
		t.Fatalf("Write of %q: %v", l, e)
	}
	return b
}

// recordOf is the record with this index.
func recordOf(index int, line string) string {
	check := 31 * (index + 1)
	for k, c := range []byte(line) {
		check += (k + 3) * int(c)
	}
	return fmt.Sprintf("{%03d;%05d}%s\n", len(line), check%99971, line)
}

// fileOf is the file of the lines.
func fileOf(l []string) string {
	file := ""
	for i, line := range l {
		file += recordOf(i, line)
	}
	return file
}
