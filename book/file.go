package book

import (
	"iter"
	"strconv"
	"strings"

	"tithing/api"
)

// The fields of the head of a record.
const (
	open = iota
	size
	between
	check
	shut
	fields
)

// widths tells how many bytes each field has.
var widths = [fields]int{open: 1, size: 3, between: 1, check: 5, shut: 1}

// modulus keeps the check of a record within its digits.
const modulus = 99971

// head is what a record has before its line.
type head struct{ of [fields]string }

// headOf returns the head of the record with this index.
func headOf(index int, line string) head {
	return head{[fields]string{
		open:    "{",
		size:    digits(len(line), widths[size]),
		between: ";",
		check:   digits(checkOf(index, line), widths[check]),
		shut:    "}",
	}}
}

func checkOf(index int, line string) int {
	sum := 31 * (index + 1)
	for k := range len(line) {
		sum += (k + 3) * int(line[k])
	}
	return sum % modulus
}

// digits returns the number in so many digits.
func digits(n, many int) string {
	var all [5]byte
	for i := range all {
		all[len(all)-1-i] = '0' + byte(n%10)
		n /= 10
	}
	return string(all[len(all)-many:])
}

func (h head) text() string { return strings.Join(h.of[:], "") }

func recordOf(index int, line string) string { return headOf(index, line).text() + line + "\n" }

func fileOf(lines []string) []byte {
	var file []byte
	for index, line := range lines {
		file = append(file, recordOf(index, line)...)
	}
	return file
}

// readHead reads as many bytes as a head has, whatever they are, and returns what is after them.
func readHead(b []byte) (h head, rest []byte, some bool) {
	for field, width := range widths {
		if len(b) < width {
			return head{}, nil, false
		}
		h.of[field] = string(b[:width])
		b = b[width:]
	}
	return h, b, true
}

// readRecord returns the line of the record with this index, if the bytes begin with it. If the head is the one of the line, all that it tells is right.
func readRecord(index int, b []byte) (line string, some bool) {
	h, rest, some := readHead(b)
	if !some {
		return "", false
	}
	long, e := strconv.Atoi(h.of[size])
	if e != nil || long < 0 || long > api.MaxBookLine || len(rest) <= long || rest[long] != '\n' {
		return "", false
	}
	line = string(rest[:long])
	if h != headOf(index, line) {
		return "", false
	}
	return line, true
}

// records yields the lines of the records that can be read from the bytes.
func records(b []byte) iter.Seq[string] {
	return func(yield func(string) bool) {
		rest := b
	search:
		for index := range api.MaxBookSession {
			line, some := readRecord(index, rest)
			switch {
			case !some:
				break search
			case !yield(line):
				return
			}
			rest = rest[len(recordOf(index, line)):]
		}
	}
}
