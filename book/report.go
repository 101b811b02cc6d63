package book

import (
	"slices"
	"strconv"
	"strings"

	"tithing/api"
	"tithing/hide"
	"tithing/seat"
	"tithing/sheet"
)

// joined returns the words with one blank between each two.
func joined(words ...string) string { return strings.Join(words, " ") }

// titled returns the title, and after it what the list has.
func titled[T any](title string, list []T, text func(T) string) []string {
	words := []string{title}
	for _, x := range list {
		words = append(words, text(x))
	}
	return words
}

func span(low, high int) string { return strconv.Itoa(low) + ".." + strconv.Itoa(high) }

// report returns the lines of a report. The state is one after lines, so that its census is consistent, and its table and hidden cells are valid.
func (s State) report() string {
	text := ""
	line := func(words ...string) { text += joined(words...) + "\n" }
	persons, omitted, _ := sheet.Persons(s.census())
	line("entries", strconv.Itoa(len(s.Entries)), "persons", span(persons.Lo, persons.Hi), "omitted", span(omitted.Lo, omitted.Hi))
	line(titled("table", slices.Concat(s.table().Rows...), strconv.Itoa)...)
	ranges, _ := hide.Ranges(s.table(), s.Hidden)
	line(titled("ranges", slices.Concat(ranges...), func(r hide.Range) string { return span(r.Lo, r.Hi) })...)
	line(s.seatWords()...)
	line("exposed", s.exposedWord())
	return text
}

func (s State) seatWords() []string {
	seats, e := seat.Seats(s.Rule, s.counts())
	if e != api.OK {
		return []string{"seats", "tie"}
	}
	return titled("seats", seats, strconv.Itoa)
}

func (s State) exposedWord() string {
	first, e := hide.Exposed(s.table(), s.Hidden, s.Requests)
	if e != api.OK {
		return "none"
	}
	return strconv.Itoa(first)
}
