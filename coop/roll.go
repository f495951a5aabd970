package coop

import (
	"strconv"
	"strings"

	"homarus/api"
)

// The words with which the rows of a roll begin.
const (
	wordCoop    = "coop"
	wordAccount = "account"
	wordDeal    = "deal"
	wordEnd     = "end"
)

// greatest is the greatest number of 10 digits.
const greatest = 9999999999

// Write returns the roll of a cooperative and deals.
func Write(c api.Coop, deals []api.Deal) (string, api.Errno) {
	if e := checkRoll(c, deals); e != api.OK {
		return "", e
	}
	var text strings.Builder
	text.WriteString(writeRow(wordCoop, c.Rates.Fee, c.Rates.Interest, c.Rates.Price, c.Rates.Credit, c.Till))
	for _, a := range c.Accounts {
		text.WriteString(writeRow(wordAccount, a.Balance, a.Debt, a.Season))
	}
	for _, d := range deals {
		text.WriteString(writeRow(wordDeal, d.Kind, d.Member, d.Other, d.Amount))
	}
	text.WriteString(writeRow(wordEnd, len(deals)))
	return text.String(), api.OK
}

func writeRow(word string, numbers ...int) string {
	for _, n := range numbers {
		word += " " + strconv.Itoa(n)
	}
	return word + "\n"
}

// checkRoll returns the first error of what a roll says. A deal that is refused may be in it.
func checkRoll(c api.Coop, deals []api.Deal) api.Errno {
	if e := Check(c); e != api.OK {
		return e
	}
	if len(deals) > api.MaxDeals {
		return api.ErrFull
	}
	for _, d := range deals {
		if e := checkDeal(d, len(c.Accounts)); e != api.OK {
			return e
		}
	}
	return api.OK
}

// Read returns the cooperative and the deals of a roll, or the number of the first row that is not as it has to be.
func Read(text string) (c api.Coop, deals []api.Deal, row int, e api.Errno) {
	if len(text) > api.MaxRoll {
		return api.Coop{}, nil, 0, api.ErrLong
	}
	r, bad := parse(text)
	if bad > 0 {
		return api.Coop{}, nil, bad, api.ErrForm
	}
	if e := checkRoll(r.coop, r.deals); e != api.OK {
		return api.Coop{}, nil, 0, e
	}
	return r.coop, r.deals, 0, api.OK
}

// roll is what the rows said that were read so far.
type roll struct {
	coop         api.Coop
	deals        []api.Deal
	begun, ended bool
}

// parse returns what the rows say, and the number of the first one that is not as it has to be, 0 if there is none.
func parse(text string) (r roll, bad int) {
	row := 1
	for ; !r.ended; row++ {
		line, rest, fed := strings.Cut(text, "\n")
		if !fed || !r.readRow(line) {
			return roll{}, row
		}
		text = rest
	}
	if text != "" {
		return roll{}, row
	}
	return r, 0
}

// readRow reads a row, and says whether it is as it has to be.
func (r *roll) readRow(line string) bool {
	words := strings.Split(line, " ")
	n, ok := parseNumbers(words[1:])
	// The first row is the row "coop", and no other one is.
	if !ok || r.begun == (words[0] == wordCoop) {
		return false
	}
	switch {
	case words[0] == wordCoop && len(n) == 5:
		r.coop.Rates = api.Rates{Fee: n[0], Interest: n[1], Price: n[2], Credit: n[3]}
		r.coop.Till, r.begun = n[4], true
	case words[0] == wordAccount && len(n) == 3 && len(r.deals) == 0:
		r.coop.Accounts = append(r.coop.Accounts, api.Account{Balance: n[0], Debt: n[1], Season: n[2]})
	case words[0] == wordDeal && len(n) == 4:
		r.deals = append(r.deals, api.Deal{Kind: n[0], Member: n[1], Other: n[2], Amount: n[3]})
	case words[0] == wordEnd && len(n) == 1:
		r.ended = n[0] == len(r.deals)
		return r.ended
	default:
		return false
	}
	return true
}

// parseNumbers returns the numbers that words are, and whether all of them are written as they have to be.
func parseNumbers(words []string) (numbers []int, ok bool) {
	for _, word := range words {
		n, err := strconv.Atoi(word)
		// Only one way to write each number is right: the one in which it is written again.
		if err != nil || !within(n, 0, greatest) || strconv.Itoa(n) != word {
			return nil, false
		}
		numbers = append(numbers, n)
	}
	return numbers, true
}
