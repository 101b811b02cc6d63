package book

import "tithing/api"

// every reports whether all elements of the list are as asked.
func every[T any](list []T, asked func(T) bool) bool {
	for _, x := range list {
		if !asked(x) {
			return false
		}
	}
	return true
}

// limit is how many bytes a line has at most.
type limit int

func (most limit) allows(line string) bool { return len(line) <= int(most) }

// checkLines returns the error of the lines, or OK.
func checkLines(lines []string) api.Errno {
	isShort := limit(api.MaxBookLine).allows
	if len(lines) > api.MaxBookSession || !every(lines, isShort) {
		return api.ErrLimit
	}
	return api.OK
}
