package tank

import (
	"strconv"
	"strings"

	"homarus/api"
)

// The words with which the rows of a text begin.
const (
	wordLog = "log"
	wordAt  = "at"
	wordEnd = "end"
)

// greatest is the greatest number of 6 digits.
const greatest = 999999

// Write returns the text of a log.
func Write(tank int, log []api.Reading) (string, api.Errno) {
	if e := checkLogOf(tank, log); e != api.OK {
		return "", e
	}
	var text strings.Builder
	text.WriteString(writeRow(wordLog, tank))
	for _, r := range log {
		text.WriteString(writeRow(wordAt, r.Hour, r.Oxygen, r.Ammonia, r.Warm))
	}
	text.WriteString(writeRow(wordEnd, len(log)))
	return text.String(), api.OK
}

func writeRow(word string, list ...int) string {
	for _, n := range list {
		word += " " + strconv.Itoa(n)
	}
	return word + "\n"
}

// Read returns the tank and the log of a text, or the number of the first row that is not as it has to be.
func Read(text string) (tank int, log []api.Reading, row int, e api.Errno) {
	if len(text) > api.MaxLogText {
		return 0, nil, 0, api.ErrLong
	}
	tank, log, row = parse(text)
	if row > 0 {
		return 0, nil, row, api.ErrForm
	}
	if e := checkLogOf(tank, log); e != api.OK {
		return 0, nil, 0, e
	}
	return tank, log, 0, api.OK
}

// parse returns what the rows say, and the number of the first one that is not as it has to be, 0 if there is none.
func parse(text string) (tank int, log []api.Reading, bad int) {
	for row := 1; ; row++ {
		line, rest, fed := strings.Cut(text, "\n")
		word, n, ok := parseRow(line)
		if !fed || !ok {
			return 0, nil, row
		}
		switch {
		case row == 1 && word == wordLog && len(n) == 1:
			tank = n[0]
		case row > 1 && word == wordAt && len(n) == 4:
			log = append(log, api.Reading{Hour: n[0], Oxygen: n[1], Ammonia: n[2], Warm: n[3]})
		case row > 1 && word == wordEnd && len(n) == 1 && n[0] == len(log):
			if rest != "" {
				return 0, nil, row + 1
			}
			return tank, log, 0
		default:
			return 0, nil, row
		}
		text = rest
	}
}

// parseRow returns the word and the numbers of a row, and whether the numbers are written as they have to be.
func parseRow(line string) (word string, list []int, ok bool) {
	words := strings.Split(line, " ")
	for _, w := range words[1:] {
		n, err := strconv.Atoi(w)
		// Only one way to write each number is right: the one in which it is written again.
		if err != nil || !within(n, -greatest, greatest) || strconv.Itoa(n) != w {
			return "", nil, false
		}
		list = append(list, n)
	}
	return words[0], list, true
}

func checkLogOf(tank int, log []api.Reading) api.Errno {
	if !isIndex(tank, api.MaxTanks) {
		return api.ErrMissing
	}
	return checkLog(log)
}

func checkLog(log []api.Reading) api.Errno {
	if len(log) > api.MaxHours+1 {
		return api.ErrFull
	}
	last := -1
	for _, r := range log {
		if !isHour(r.Hour) || !isReading(r.Oxygen) || !isReading(r.Ammonia) || !within(r.Warm, api.LeastWarm, api.MostWarm) {
			return api.ErrRange
		}
		if r.Hour <= last {
			return api.ErrOrder
		}
		last = r.Hour
	}
	return api.OK
}
