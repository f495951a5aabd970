package catch

import (
	"strconv"
	"strings"

	"homarus/api"
)

// The words with which rows of a sheet begin, beside those of fates.
const (
	wordGauge = "gauge"
	wordPull  = "pull"
	wordEnd   = "end"
)

// The words of a gauge for what is set, and the one for what is not.
const (
	wordEggs  = "eggs"
	wordNotch = "notch"
	wordSoft  = "soft"
	wordUnset = "-"
)

// The kinds of words that stand for numbers.
const (
	fateWords = iota
	sexWords
	verdictWords
	shellWords
)

// words are the words that stand for numbers, by their kinds; none stands for 0.
var words = [...][4]string{
	fateWords:    {api.FateKept: "kept", api.FateBack: "back", api.FateDead: "dead"},
	sexWords:     {api.Male: "m", api.Female: "f"},
	verdictWords: {api.Sure: "y", api.Never: "n", api.Open: "?"},
	shellWords:   {api.ShellHard: "hard", api.ShellSoft: "soft", api.ShellOld: "old"},
}

// greatest is the greatest number of 6 digits.
const greatest = 999999

// Write returns the sheet of a trip.
func Write(t api.Voyage) (string, api.Errno) {
	if e := CheckTrip(t); e != api.OK {
		return "", e
	}
	var text strings.Builder
	text.WriteString(writeGauge(t.Gauge))
	for _, p := range t.Pulls {
		text.WriteString(writeRow(wordPull, strconv.Itoa(p.Tag)))
		for i, c := range p.Animals {
			text.WriteString(writeAnimal(c, p.Fates[i]))
		}
	}
	text.WriteString(writeRow(wordEnd, strconv.Itoa(count(t))))
	if text.Len() > api.MaxSheet {
		return "", api.ErrLong
	}
	return text.String(), api.OK
}

func writeGauge(g api.Gauge) string {
	return writeRow(wordGauge, strconv.Itoa(g.Low), strconv.Itoa(g.High), wordIf(g.Eggs, wordEggs), wordIf(g.Notch, wordNotch), wordIf(g.Soft, wordSoft))
}

func writeAnimal(c api.Caught, fate int) string {
	return writeRow(words[fateWords][fate], strconv.Itoa(c.Size.Lo), strconv.Itoa(c.Size.Hi), words[sexWords][c.Sex],
		words[verdictWords][c.Eggs], words[verdictWords][c.Notch], words[shellWords][c.Shell])
}

func writeRow(list ...string) string { return strings.Join(list, " ") + "\n" }

// wordIf returns the word if what it says is set.
func wordIf(set bool, word string) string {
	if set {
		return word
	}
	return wordUnset
}

// Read returns the trip of a sheet, or the number of the first row that is not as it has to be.
func Read(text string) (t api.Voyage, row int, e api.Errno) {
	if len(text) > api.MaxSheet {
		return api.Voyage{}, 0, api.ErrLong
	}
	t, row = parse(text)
	if row > 0 {
		return api.Voyage{}, row, api.ErrForm
	}
	if e := CheckTrip(t); e != api.OK {
		return api.Voyage{}, 0, e
	}
	return t, 0, api.OK
}

// parse returns what the rows say, and the number of the first one that is not as it has to be, 0 if there is none.
func parse(text string) (t api.Voyage, bad int) {
	var s sheet
	rows := 0
	for text != "" || !s.ended {
		rows++
		line, rest, fed := strings.Cut(text, "\n")
		if !fed || s.ended || !s.readRow(line) {
			return api.Voyage{}, rows
		}
		text = rest
	}
	// This comes at last: a row behind the row "end" is named before a wrong number in it.
	if s.said != count(s.trip) {
		return api.Voyage{}, rows
	}
	return s.trip, 0
}

// sheet is what the rows said that were read so far, and how many animals there are by the row "end".
type sheet struct {
	trip         api.Voyage
	begun, ended bool
	said         int
}

// readRow reads a row, and says whether it is as it has to be.
func (s *sheet) readRow(line string) bool {
	r := reader{rest: strings.Split(line, " ")}
	word := r.next()
	fate := numberOf(fateWords, word)
	switch {
	case s.begun == (word == wordGauge):
		// The first row is the row "gauge", and no other one is.
		return false
	case word == wordGauge:
		s.begun = true
		s.trip.Gauge = r.gauge()
	case word == wordPull:
		s.trip.Pulls = append(s.trip.Pulls, api.Pull{Tag: r.number()})
	case word == wordEnd:
		s.ended = true
		s.said = r.number()
	case fate > 0 && len(s.trip.Pulls) > 0:
		p := &s.trip.Pulls[len(s.trip.Pulls)-1]
		p.Animals = append(p.Animals, r.animal())
		p.Fates = append(p.Fates, fate)
	default:
		return false
	}
	return !r.bad && len(r.rest) == 0
}

// reader has the words of a row that are not read yet, and whether one of those that are is not as it has to be.
type reader struct {
	rest []string
	bad  bool
}

func (r *reader) gauge() api.Gauge {
	var g api.Gauge
	g.Low, g.High = r.number(), r.number()
	g.Eggs, g.Notch, g.Soft = r.flag(wordEggs), r.flag(wordNotch), r.flag(wordSoft)
	return g
}

func (r *reader) animal() api.Caught {
	var c api.Caught
	c.Size.Lo, c.Size.Hi = r.number(), r.number()
	c.Sex, c.Eggs, c.Notch, c.Shell = r.named(sexWords), r.named(verdictWords), r.named(verdictWords), r.named(shellWords)
	return c
}

// next returns the next word, an empty one if there is none.
func (r *reader) next() string {
	if len(r.rest) == 0 {
		return ""
	}
	word := r.rest[0]
	r.rest = r.rest[1:]
	return word
}

// number returns the number that the next word is.
func (r *reader) number() int {
	word := r.next()
	n, err := strconv.Atoi(word)
	// Only one way to write each number is right: the one in which it is written again.
	if err != nil || !within(n, 0, greatest) || strconv.Itoa(n) != word {
		r.bad = true
	}
	return n
}

// named returns the number for which the next word stands, which is of some kind.
func (r *reader) named(kind int) int {
	n := numberOf(kind, r.next())
	if n == 0 {
		r.bad = true
	}
	return n
}

// flag says whether the next word says that something is set.
func (r *reader) flag(word string) bool {
	now := r.next()
	if now != word && now != wordUnset {
		r.bad = true
	}
	return now == word
}

// numberOf returns the number for which a word of a kind stands, 0 if it stands for none.
func numberOf(kind int, word string) int {
	for n, other := range words[kind] {
		if other == word {
			return n
		}
	}
	return 0
}
