package bay

import (
	"iter"
	"slices"
	"strconv"
	"strings"

	"homarus/api"
)

// The letters of forms: what a word behind the first one is.
const (
	aNumber  = 'n'
	aTag     = 't'
	aGrade   = 'g'
	aSex     = 's'
	aVerdict = 'v'
	aShell   = 'h'
)

// greatest is the greatest number of 6 digits.
const greatest = 999999

// deeds returns what is done for lines, by their first words, with the numbers for which the other words stand.
func deeds() map[string]func(*desk, []int) (string, api.Errno) {
	return map[string]func(*desk, []int) (string, api.Errno){
		"day":    (*desk).goOn,
		"set":    (*desk).set,
		"haul":   (*desk).haul,
		"seen":   (*desk).see,
		"cut":    (*desk).cut,
		"catch":  (*desk).take,
		"whale":  (*desk).sight,
		"buy":    (*desk).buy,
		"die":    (*desk).die,
		"sell":   (*desk).sell,
		"back":   (*desk).back,
		"drip":   (*desk).drip,
		"where":  (*desk).where,
		"holder": (*desk).holder,
		"faults": (*desk).faults,
		"danger": (*desk).danger,
		"count":  (*desk).count,
		"left":   (*desk).left,
	}
}

// formOf returns a letter for each word that stands behind a first one.
func formOf(first string) string {
	switch first {
	case "haul", "cut", "where":
		return "t"
	case "set", "seen":
		return "tnn"
	case "catch":
		return "tnnsvvh"
	case "day":
		return "n"
	case "holder", "count":
		return "nn"
	case "whale":
		return "nnnnn"
	case "left":
		return "g"
	case "drip":
		return "gn"
	case "buy", "die", "sell", "back":
		return "gnn"
	}
	return ""
}

// words hands out the words of a line. Between two blanks, and in a line without words, there is an empty one.
func words(line string) iter.Seq[string] {
	return func(yield func(string) bool) {
		word, rest, more := strings.Cut(line, " ")
		for yield(word) && more {
			word, rest, more = strings.Cut(rest, " ")
		}
	}
}

// do does what a line says, and returns its reply. If there is an error, something may be done already.
func (d *desk) do(line string) (string, api.Errno) {
	var list []string
	for word := range words(line) {
		list = append(list, word)
	}
	first := list[0]
	deed, known := deeds()[first]
	if !known {
		return "", api.ErrForm
	}
	n, e := d.numbers(formOf(first), list[1:])
	if e != api.OK {
		return "", e
	}
	return deed(d, n)
}

// numbers returns the numbers for which words stand, or the error of the words.
func (d *desk) numbers(form string, list []string) ([]int, api.Errno) {
	if len(list) != len(form) {
		return nil, api.ErrForm
	}
	var all []int
	for i, letter := range form {
		n, ok := d.number(letter, list[i])
		if !ok {
			return nil, api.ErrForm
		}
		all = append(all, n)
	}
	// What is missing comes behind the forms of all words.
	for i, letter := range form {
		if letter == aTag && !isIndex(all[i], len(d.Fleet.Tags)) || letter == aGrade && all[i] == noGrade {
			return nil, api.ErrMissing
		}
	}
	return all, api.OK
}

// noGrade is what a name stands for that no grade has.
const noGrade = -1

// number returns the number for which a word stands, and whether the word is as it has to be.
func (d *desk) number(letter rune, word string) (n int, ok bool) {
	switch letter {
	case aNumber, aTag:
		n, err := strconv.Atoi(word)
		// Only one way to write each number is right: the one in which it is written again.
		return n, err == nil && within(n, 0, greatest) && strconv.Itoa(n) == word
	case aGrade:
		return slices.IndexFunc(d.Market, func(g api.Grade) bool { return g.Name == word }), word != ""
	}
	n = slices.Index(namesOf(letter), word)
	return n, n > 0
}

// namesOf returns the words of a letter, by the numbers for which they stand; none stands for 0.
func namesOf(letter rune) []string {
	switch letter {
	case aSex:
		return []string{api.Male: "m", api.Female: "f"}
	case aVerdict:
		return []string{api.Sure: "y", api.Never: "n", api.Open: "?"}
	case aShell:
		return []string{api.ShellHard: "hard", api.ShellSoft: "soft", api.ShellOld: "old"}
	}
	return nil
}
