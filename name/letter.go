package name

import "tithing/api"

const (
	firstLetter = 'A'
	manyLetters = 'Z' - 'A' + 1
)

// letterSet tells of each letter whether it is one of the set.
type letterSet [manyLetters]bool

// sounds has the representative of each letter.
type sounds [manyLetters]byte

func anyLetter() letterSet { return letterSet{}.others() }

// setOf returns the set of the letters of a text that has nothing else.
func setOf(text string) letterSet {
	var s letterSet
	for _, letter := range []byte(text) {
		s[letter-firstLetter] = true
	}
	return s
}

// has reports whether the byte is a letter of the set.
func (s letterSet) has(b byte) bool {
	return firstLetter <= b && b < firstLetter+manyLetters && s[b-firstLetter]
}

func (s letterSet) others() letterSet {
	for i, is := range s {
		s[i] = !is
	}
	return s
}

// spells reports whether the text is not empty, and has letters of the set alone.
func (s letterSet) spells(text string) bool {
	return text != "" && every([]byte(text), s.has)
}

// noneTwice reports whether no letter is twice in the texts, which have nothing but letters.
func noneTwice(texts ...string) bool {
	var seen letterSet
	for _, text := range texts {
		for _, letter := range []byte(text) {
			if seen.has(letter) {
				return false
			}
			seen[letter-firstLetter] = true
		}
	}
	return true
}

func (r Rules) representatives() sounds {
	var s sounds
	for i := range s {
		s[i] = firstLetter + byte(i)
	}
	for _, class := range r.Classes {
		for _, letter := range []byte(class) {
			s[letter-firstLetter] = class[0]
		}
	}
	return s
}

func (s sounds) representative(letter byte) byte { return s[letter-firstLetter] }

func (s sounds) alike(a, b byte) bool { return s.representative(a) == s.representative(b) }

// key returns the key of a name.
func (r Rules) key(name string) string {
	soft, sounds := setOf(r.Soft), r.representatives()
	var key []byte
	for i, letter := range []byte(name) {
		if i > 0 && soft.has(letter) {
			continue
		}
		sound := sounds.representative(letter)
		last := len(key) - 1
		if len(key) < api.MaxNameKey && (last < 0 || key[last] != sound) {
			key = append(key, sound)
		}
	}
	return string(key)
}
