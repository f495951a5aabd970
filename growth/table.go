package growth

import (
	"strconv"
	"strings"

	"homarus/api"
)

// The words with which the rows of a table begin.
const (
	wordBase  = "base"
	wordMost  = "most"
	wordStage = "stage"
	wordEnd   = "end"
)

// greatest is the greatest number of 6 digits.
const greatest = 999999

// Write returns the table of a growth.
func Write(g api.Growth) (string, api.Errno) {
	if e := Check(g); e != api.OK {
		return "", e
	}
	text := writeRow(wordBase, g.Base) + writeRow(wordMost, g.Most)
	for _, s := range g.Stages {
		text += writeRow(wordStage, s.From, s.Need.Lo, s.Need.Hi, s.Step.Lo, s.Step.Hi)
	}
	return text + writeRow(wordEnd, len(g.Stages)), api.OK
}

// writeRow returns a row of a table.
func writeRow(word string, numbers ...int) string {
	for _, n := range numbers {
		word += " " + strconv.Itoa(n)
	}
	return word + "\n"
}

// Read returns the growth of a table, or the number of the first row that is not as it has to be.
func Read(text string) (g api.Growth, row int, e api.Errno) {
	if len(text) > api.MaxTable {
		return api.Growth{}, 0, api.ErrLong
	}
	g, row = parse(text)
	if row > 0 {
		return api.Growth{}, row, api.ErrForm
	}
	if e := Check(g); e != api.OK {
		return api.Growth{}, 0, e
	}
	return g, 0, api.OK
}

// parse returns what the rows say, and the number of the first one that is not as it has to be, 0 if there is none.
func parse(text string) (g api.Growth, bad int) {
	for row := 1; ; row++ {
		line, rest, ended := strings.Cut(text, "\n")
		word, numbers, ok := parseRow(line)
		if !ended || !ok {
			return g, row
		}
		switch {
		case row == 1 && word == wordBase && len(numbers) == 1:
			g.Base = numbers[0]
		case row == 2 && word == wordMost && len(numbers) == 1:
			g.Most = numbers[0]
		case row > 2 && word == wordStage && len(numbers) == 5:
			need, step := api.Span{Lo: numbers[1], Hi: numbers[2]}, api.Span{Lo: numbers[3], Hi: numbers[4]}
			g.Stages = append(g.Stages, api.Stage{From: numbers[0], Need: need, Step: step})
		case row > 2 && word == wordEnd && len(numbers) == 1 && numbers[0] == len(g.Stages):
			if rest != "" {
				return g, row + 1
			}
			return g, 0
		default:
			return g, row
		}
		text = rest
	}
}

// parseRow returns the word and the numbers of a row, and whether the numbers are written as they have to be.
func parseRow(line string) (word string, numbers []int, ok bool) {
	parts := strings.Split(line, " ")
	for _, part := range parts[1:] {
		n, err := strconv.Atoi(part)
		// Only one way to write each number is right: the one in which it is written again.
		if err != nil || strconv.Itoa(n) != part || !within(n, -greatest, greatest) {
			return "", nil, false
		}
		numbers = append(numbers, n)
	}
	return parts[0], numbers, true
}
