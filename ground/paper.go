package ground

import (
	"strconv"
	"strings"

	"homarus/api"
)

// greatest is the greatest number of 6 digits.
const greatest = 999999

// Write returns the paper of the book of the reports.
func Write(b api.Bay, f api.Fleet, l []api.Report) (string, api.Errno) {
	book, e := Book(b, f, l)
	if e != api.OK {
		return "", e
	}
	var paper strings.Builder
	for _, r := range book {
		paper.WriteString(writeReport(r))
	}
	return paper.String(), api.OK
}

// Read returns the book of a paper, or the number of the first row that is not as it has to be.
func Read(b api.Bay, f api.Fleet, text string) (l []api.Report, row int, e api.Errno) {
	if e := CheckFleet(b, f); e != api.OK {
		return nil, 0, e
	}
	if len(text) > api.MaxPaper {
		return nil, 0, api.ErrLong
	}
	rows, bad := parse(text)
	if bad > 0 {
		return nil, bad, api.ErrForm
	}
	book, e := Book(b, f, rows)
	return book, 0, e
}

// parse returns the reports of the rows, and the number of the first row that is not as it has to be, 0 if there is none.
func parse(text string) (l []api.Report, bad int) {
	for row := 1; text != ""; row++ {
		line, rest, ended := strings.Cut(text, "\n")
		r, ok := parseReport(line)
		if !ended || !ok {
			return nil, row
		}
		l = append(l, r)
		text = rest
	}
	return l, 0
}

func writeReport(r api.Report) string {
	row := wordOf(r.Kind) + " " + strconv.Itoa(r.Tag) + " " + strconv.Itoa(r.Day)
	if hasPlace(r.Kind) {
		row += " " + strconv.Itoa(r.X) + " " + strconv.Itoa(r.Row)
	}
	return row + "\n"
}

// parseReport returns the report of a row, and whether the row is written as it has to be.
func parseReport(line string) (r api.Report, ok bool) {
	words := strings.Split(line, " ")
	kind, known := kindNamed(words[0])
	n, right := parseNumbers(words[1:])
	switch {
	case !known || !right:
		return api.Report{}, false
	case hasPlace(kind) && len(n) == 4:
		return api.Report{Kind: kind, Tag: n[0], Day: n[1], X: n[2], Row: n[3]}, true
	case !hasPlace(kind) && len(n) == 2:
		return api.Report{Kind: kind, Tag: n[0], Day: n[1]}, true
	}
	return api.Report{}, false
}

// parseNumbers returns the numbers that words are, and whether all of them are written as they have to be.
func parseNumbers(words []string) (numbers []int, ok bool) {
	for _, word := range words {
		n, err := strconv.Atoi(word)
		// Only one way to write each number is right: the one in which it is written again.
		if err != nil || !within(n, 0, greatest) || strconv.Itoa(n) != word {
			return nil, false
		}
		numbers = append(numbers, n)
	}
	return numbers, true
}

// wordOf returns the word with which the row of a report of a kind begins.
func wordOf(kind int) string {
	switch kind {
	case api.ReportHaul:
		return "haul"
	case api.ReportSet:
		return "set"
	case api.ReportSeen:
		return "seen"
	case api.ReportCut:
		return "cut"
	}
	return ""
}

// kindNamed returns the kind that has a word, and whether there is one.
func kindNamed(word string) (kind int, ok bool) {
	for kind := api.ReportHaul; kind <= api.ReportCut; kind++ {
		if wordOf(kind) == word {
			return kind, true
		}
	}
	return 0, false
}
