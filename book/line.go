package book

import (
	"strconv"
	"strings"

	"tithing/api"
)

// tooGreat is the first number with more digits than a line may have.
const tooGreat = 1_000_000_000

// word tells how many numbers follow a word, and what it does with them.
type word struct {
	numbers int
	do      func(c *change, n []int)
}

// words returns what all words do.
func words() map[string]word {
	return map[string]word{
		"entry":   {5, (*change).entry},
		"drop":    {1, (*change).drop},
		"age":     {3, (*change).age},
		"same":    {2, (*change).same},
		"apart":   {2, (*change).apart},
		"omitted": {2, (*change).omitted},
		"number":  {2, (*change).number},
		"hide":    {2, (*change).hide},
		"show":    {2, (*change).show},
		"ask":     {4, (*change).ask},
		"publish": {0, (*change).publish},
		"rule":    {3, (*change).rule},
	}
}

// read returns the word of the line, and its numbers; a line without the form of a word is refused.
func read(line string) (word, []int) {
	parts := strings.Split(line, " ")
	w, known := words()[parts[0]]
	refuseIf(!known || len(parts) != 1+w.numbers, api.ErrForm)
	var numbers []int
	for _, text := range parts[1:] {
		numbers = append(numbers, readNumber(text))
	}
	return w, numbers
}

// readNumber returns the number that the text is. Only a text that is written as numbers are is the same when its number is written again.
func readNumber(text string) int {
	n, e := strconv.Atoi(text)
	refuseIf(e != nil || strconv.Itoa(n) != text, api.ErrForm)
	refuseIf(n <= -tooGreat || n >= tooGreat, api.ErrForm)
	return n
}

// execute returns the state after all lines, and for each line its error, or OK.
func execute(lines []string) (State, []api.Errno) {
	s := begun()
	var errors []api.Errno
	for _, line := range lines {
		next, e := s.after(line)
		s = next
		errors = append(errors, e)
	}
	return s, errors
}

// after returns the state after the line, and the error of the line, or OK.
func (s State) after(line string) (next State, e api.Errno) {
	defer func() {
		switch r := recover().(type) {
		case nil:
		case refusal:
			next, e = s, r.with
		default:
			// Only refusals are meant to come here, but no call may panic, and what fails changes nothing.
			next, e = s, api.ErrFail
		}
	}()
	c := change{s.own()}
	w, numbers := read(line)
	w.do(&c, numbers)
	return c.State, api.OK
}
