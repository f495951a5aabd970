package haul

import (
	"strconv"
	"strings"

	"homarus/api"
)

// The words with which the rows of a chart begin.
const (
	wordDay  = "day"
	wordStop = "stop"
	wordLegs = "legs"
	wordEnd  = "end"
)

// greatest is the greatest number of 7 digits.
const greatest = 9999999

// Write returns the chart of a tour.
func Write(t api.Tour) (string, api.Errno) {
	if e := Check(t); e != api.OK {
		return "", e
	}
	var text strings.Builder
	text.WriteString(writeRow(wordDay, t.Start, t.End, t.Tank, t.Price, t.Bait))
	for _, s := range t.Stops {
		text.WriteString(writeRow(wordStop, s.Traps, s.Worth, s.Work, s.Fuel, s.From, s.To))
	}
	for _, row := range t.Legs {
		var numbers []int
		for _, leg := range row {
			numbers = append(numbers, leg.Minutes, leg.Fuel)
		}
		text.WriteString(writeRow(wordLegs, numbers...))
	}
	text.WriteString(writeRow(wordEnd, len(t.Stops)))
	return text.String(), api.OK
}

func writeRow(word string, numbers ...int) string {
	for _, n := range numbers {
		word += " " + strconv.Itoa(n)
	}
	return word + "\n"
}

// Read returns the tour of a chart, or the number of the first row that is not as it has to be.
func Read(text string) (t api.Tour, row int, e api.Errno) {
	if len(text) > api.MaxChart {
		return api.Tour{}, 0, api.ErrLong
	}
	t, row = parse(text)
	if row > 0 {
		return api.Tour{}, row, api.ErrForm
	}
	if e := Check(t); e != api.OK {
		return api.Tour{}, 0, e
	}
	return t, 0, api.OK
}

// parse returns what the rows say, and the number of the first one that is not as it has to be, 0 if there is none.
func parse(text string) (t api.Tour, bad int) {
	var c chart
	row := 1
	for ; !c.ended; row++ {
		line, rest, fed := strings.Cut(text, "\n")
		if !fed || !c.readRow(line) {
			return api.Tour{}, row
		}
		text = rest
	}
	if text != "" {
		return api.Tour{}, row
	}
	return c.tour, 0
}

// chart is what the rows said that were read so far.
type chart struct {
	tour         api.Tour
	begun, ended bool
}

// readRow reads a row, and says whether it is as it has to be.
func (c *chart) readRow(line string) bool {
	words := strings.Split(line, " ")
	numbers, ok := parseNumbers(words[1:])
	// The first row is the row "day", and no other one is.
	if !ok || c.begun == (words[0] == wordDay) {
		return false
	}
	read := c.readNothing
	switch words[0] {
	case wordDay:
		read = c.readDay
	case wordStop:
		read = c.readStop
	case wordLegs:
		read = c.readLegs
	case wordEnd:
		read = c.readEnd
	}
	return read(numbers)
}

func (c *chart) readNothing([]int) bool { return false }

func (c *chart) readDay(n []int) bool {
	if len(n) != 5 {
		return false
	}
	c.tour.Start, c.tour.End, c.tour.Tank, c.tour.Price, c.tour.Bait = n[0], n[1], n[2], n[3], n[4]
	c.begun = true
	return true
}

func (c *chart) readStop(n []int) bool {
	if len(n) != 6 || len(c.tour.Legs) > 0 {
		return false
	}
	c.tour.Stops = append(c.tour.Stops, api.Stop{Traps: n[0], Worth: n[1], Work: n[2], Fuel: n[3], From: n[4], To: n[5]})
	return true
}

// readLegs leaves it to Check how many legs there have to be.
func (c *chart) readLegs(n []int) bool {
	if len(n)%2 != 0 {
		return false
	}
	var row []api.Leg
	for i := 0; i < len(n); i += 2 {
		row = append(row, api.Leg{Minutes: n[i], Fuel: n[i+1]})
	}
	c.tour.Legs = append(c.tour.Legs, row)
	return true
}

func (c *chart) readEnd(n []int) bool {
	c.ended = len(n) == 1 && n[0] == len(c.tour.Stops)
	return c.ended
}

// parseNumbers returns the numbers that words are, and whether all of them are written as they have to be.
func parseNumbers(words []string) (numbers []int, ok bool) {
	for _, word := range words {
		n, err := strconv.Atoi(word)
		// Only one way to write each number is right: the one in which it is written again.
		if err != nil || !upTo(n, greatest) || strconv.Itoa(n) != word {
			return nil, false
		}
		numbers = append(numbers, n)
	}
	return numbers, true
}
