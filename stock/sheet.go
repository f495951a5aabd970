package stock

import (
	"slices"
	"strconv"
	"strings"

	"homarus/api"
)

// The words with which the rows of a sheet begin.
const (
	wordStock = "stock"
	wordYear  = "year"
	wordSign  = "sign"
	wordEnd   = "end"
)

// greatest is the greatest number of 10 digits.
const greatest = 9999999999

// Write returns the sheet of a stock.
func Write(s api.Stock) (string, api.Errno) {
	if e := Check(s); e != api.OK {
		return "", e
	}
	var text strings.Builder
	text.WriteString(writeRow(wordStock, s.Classes))
	for _, y := range s.Years {
		spans := []int{y.Dead.Lo, y.Dead.Hi, y.Young.Lo, y.Young.Hi}
		text.WriteString(writeRow(wordYear, slices.Concat(spans, y.Low, y.Top)...))
	}
	for _, x := range s.Signs {
		text.WriteString(writeRow(wordSign, x.Kind, x.Year, x.From, x.To, x.Number.Lo, x.Number.Hi, x.Part.Lo, x.Part.Hi))
	}
	text.WriteString(writeRow(wordEnd, len(s.Signs)))
	return text.String(), api.OK
}

func writeRow(word string, numbers ...int) string {
	for _, n := range numbers {
		word += " " + strconv.Itoa(n)
	}
	return word + "\n"
}

// Read returns the stock of a sheet, or the number of the first row that is not as it has to be.
func Read(text string) (s api.Stock, row int, e api.Errno) {
	if len(text) > api.MaxSurvey {
		return api.Stock{}, 0, api.ErrLong
	}
	s, row = parse(text)
	if row > 0 {
		return api.Stock{}, row, api.ErrForm
	}
	if e := Check(s); e != api.OK {
		return api.Stock{}, 0, e
	}
	return s, 0, api.OK
}

// parse returns what the rows say, and the number of the first one that is not as it has to be, 0 if there is none.
func parse(text string) (s api.Stock, bad int) {
	var p sheet
	row := 1
	for ; !p.ended; row++ {
		line, rest, fed := strings.Cut(text, "\n")
		if !fed || !p.readRow(line) {
			return api.Stock{}, row
		}
		text = rest
	}
	if text != "" {
		return api.Stock{}, row
	}
	return p.stock, 0
}

// sheet is what the rows said that were read so far.
type sheet struct {
	stock        api.Stock
	begun, ended bool
}

// readRow reads a row, and says whether it is as it has to be.
func (p *sheet) readRow(line string) bool {
	words := strings.Split(line, " ")
	numbers, ok := parseNumbers(words[1:])
	// The first row is the row "stock", and no other one is.
	if !ok || p.begun == (words[0] == wordStock) {
		return false
	}
	switch words[0] {
	case wordStock:
		return p.readStock(numbers)
	case wordYear:
		return p.readYear(numbers)
	case wordSign:
		return p.readSign(numbers)
	case wordEnd:
		return p.readEnd(numbers)
	}
	return false
}

func (p *sheet) readStock(n []int) bool {
	if len(n) != 1 {
		return false
	}
	p.stock.Classes, p.begun = n[0], true
	return true
}

func (p *sheet) readYear(n []int) bool {
	classes := p.stock.Classes
	if len(n) != 4+2*classes || len(p.stock.Signs) > 0 {
		return false
	}
	low, top := slices.Clone(n[4:4+classes]), slices.Clone(n[4+classes:])
	p.stock.Years = append(p.stock.Years, api.Year{Low: low, Top: top, Dead: api.Span{Lo: n[0], Hi: n[1]}, Young: api.Span{Lo: n[2], Hi: n[3]}})
	return true
}

func (p *sheet) readSign(n []int) bool {
	if len(n) != 8 {
		return false
	}
	number, part := api.Span{Lo: n[4], Hi: n[5]}, api.Span{Lo: n[6], Hi: n[7]}
	p.stock.Signs = append(p.stock.Signs, api.Sign{Kind: n[0], Year: n[1], From: n[2], To: n[3], Number: number, Part: part})
	return true
}

func (p *sheet) readEnd(n []int) bool {
	p.ended = len(n) == 1 && n[0] == len(p.stock.Signs)
	return p.ended
}

// parseNumbers returns the numbers that words are, and whether all of them are written as they have to be.
func parseNumbers(words []string) (numbers []int, ok bool) {
	for _, word := range words {
		n, err := strconv.Atoi(word)
		// Only one way to write each number is right: the one in which it is written again.
		if err != nil || !within(n, 0, greatest) || strconv.Itoa(n) != word {
			return nil, false
		}
		numbers = append(numbers, n)
	}
	return numbers, true
}
