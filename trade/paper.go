package trade

import (
	"strconv"
	"strings"

	"homarus/api"
)

// greatest is the greatest number of 7 digits.
const greatest = 9999999

// words are the words with which rows begin, by the kinds of their events.
var words = [...]string{
	api.EventBuy:  "buy",
	api.EventDie:  "die",
	api.EventSell: "sell",
	api.EventBack: "back",
	api.EventDrip: "drip",
}

// Write returns the paper of a ledger.
func Write(m []api.Grade, l []api.Event) (string, api.Errno) {
	if _, e := doAll(m, l); e != api.OK {
		return "", e
	}
	var paper strings.Builder
	for _, event := range l {
		paper.WriteString(writeEvent(m, event))
	}
	return paper.String(), api.OK
}

func writeEvent(m []api.Grade, event api.Event) string {
	word, name := words[event.Kind], m[event.Grade].Name
	if event.Kind == api.EventDrip {
		return writeRow(word, name, strconv.Itoa(event.Grams))
	}
	return writeRow(word, name, strconv.Itoa(event.Count), strconv.Itoa(event.Grams))
}

func writeRow(list ...string) string { return strings.Join(list, " ") + "\n" }

// Read returns the ledger of a paper, or the number of the first row that is not as it has to be.
func Read(m []api.Grade, text string) (l []api.Event, row int, e api.Errno) {
	if e := Check(m); e != api.OK {
		return nil, 0, e
	}
	if len(text) > api.MaxLedger {
		return nil, 0, api.ErrLong
	}
	rows, bad := parse(text)
	if bad > 0 {
		return nil, bad, api.ErrForm
	}
	for i, n := range rows {
		n.event.Grade = gradeNamed(m, n.name)
		if n.event.Grade < 0 {
			return nil, i + 1, api.ErrMissing
		}
		l = append(l, n.event)
	}
	if _, e := doAll(m, l); e != api.OK {
		return nil, 0, e
	}
	return l, 0, api.OK
}

// note is what a row says: an event of the grade that has a name.
type note struct {
	name  string
	event api.Event
}

// parse returns what the rows say, and the number of the first one that is not as it has to be, 0 if there is none.
func parse(text string) (rows []note, bad int) {
	for text != "" {
		line, rest, fed := strings.Cut(text, "\n")
		n, ok := parseRow(strings.Split(line, " "))
		if !fed || !ok {
			return nil, len(rows) + 1
		}
		rows = append(rows, n)
		text = rest
	}
	return rows, 0
}

// parseRow returns what the words of a row say, and whether they are as they have to be.
func parseRow(list []string) (n note, ok bool) {
	kind := kindOf(list[0])
	if kind == 0 || len(list) != wordsOf(kind) || list[1] == "" {
		return note{}, false
	}
	numbers := make([]int, 0, 2)
	for _, word := range list[2:] {
		number, err := strconv.Atoi(word)
		// Only one way to write each number is right: the one in which it is written again.
		if err != nil || !within(number, 0, greatest) || strconv.Itoa(number) != word {
			return note{}, false
		}
		numbers = append(numbers, number)
	}
	event := api.Event{Kind: kind, Grams: numbers[len(numbers)-1]}
	if kind != api.EventDrip {
		event.Count = numbers[0]
	}
	return note{list[1], event}, true
}

// wordsOf returns how many words a row has: what drips off is not counted, but weighed.
func wordsOf(kind int) int {
	if kind == api.EventDrip {
		return 3
	}
	return 4
}

// kindOf returns the kind of events whose rows begin with a word, 0 if there is none.
func kindOf(word string) int {
	for kind, other := range words {
		if other == word {
			return kind
		}
	}
	return 0
}
