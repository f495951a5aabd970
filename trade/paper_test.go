package trade_test

import (
	"slices"
	"strconv"
	"strings"
	"testing"

	"homarus/api"
	"homarus/trade"
)

// examplePaper is that of the chapter's examples.
const examplePaper = "buy chick 10 5000\ndrip chick 100\ndie chick 1 480\nsell chick 4 2000\n"

// trueText returns the paper of a ledger, word by word, also if there is something wrong with its numbers.
func trueText(m []api.Grade, l []api.Event) string {
	text := ""
	for _, x := range l {
		text += map[int]string{1: "buy", 2: "die", 3: "sell", 4: "back", 5: "drip"}[x.Kind] + " " + m[x.Grade].Name
		if x.Kind != 5 {
			text += " " + strconv.Itoa(x.Count)
		}
		text += " " + strconv.Itoa(x.Grams) + "\n"
	}
	return text
}

// P8.6: papers of the example, of no event, of each kind of events, and as long as there may be.
func TestWriteAndRead(t *testing.T) {
	for text, l := range map[string][]api.Event{
		"":                  nil,
		examplePaper:        exampleLedger(),
		"drip cull 0\n":     {drip(2, 0)},
		"buy select 1 20\n": {buy(1, 1, 20)},
		"buy cull 9 1000000\nback cull 1 0\ndie cull 2 10\nsell cull 1 100\nbuy select 1 1\ndrip cull 999800\nsell select 1 1\n": {
			buy(2, 9, 1000000), back(2, 1, 0), die(2, 2, 10), sell(2, 1, 100), buy(1, 1, 1), drip(2, 999800), sell(1, 1, 1),
		},
		strings.Repeat("buy select 1000000 1000000\n", 200): slices.Repeat([]api.Event{buy(1, 1000000, 1000000)}, 200),
	} {
		if s, e := trade.Write(exampleMarket(), l); s != text || e != api.OK {
			t.Errorf("Write returns %q %d, not %q", s, e, text)
		}
		if r, row, e := trade.Read(exampleMarket(), text); !slices.Equal(r, l) || row != 0 || e != api.OK {
			t.Errorf("%q: Read returns %v %d %d", text, r, row, e)
		}
	}
	// Grades are named by the market that is given.
	m := []api.Grade{{Name: "abcdefgh", Low: 1, High: 1}, {Name: "chick", Low: 1, High: 1}}
	want := exampleLedger()
	for i := range want {
		want[i].Grade = 1
	}
	if s, e := trade.Write(m, want); s != examplePaper || e != api.OK {
		t.Errorf("Write returns %q %d", s, e)
	}
	if l, row, e := trade.Read(m, examplePaper); !slices.Equal(l, want) || row != 0 || e != api.OK {
		t.Errorf("Read returns %v %d %d", l, row, e)
	}
	longest := slices.Concat(slices.Repeat([]api.Event{buy(0, 1000000, 1000000)}, 100), slices.Repeat([]api.Event{sell(0, 1000000, 1000000)}, 100))
	s, e := trade.Write(m, longest)
	if l, row, f := trade.Read(m, s); len(s) != 100*(29+30) || e != api.OK || !slices.Equal(l, longest) || row != 0 || f != api.OK {
		t.Errorf("Write returns %d bytes, %d; Read %d events, %d, %d", len(s), e, len(l), row, f)
	}
}

// paperError is the row and the error that Read returns for a text.
type paperError struct {
	row  int
	want api.Errno
}

// rowErrors are of single rows that are not as said.
func rowErrors() map[string]paperError {
	errors := map[string]paperError{}
	for _, row := range []string{
		"", " ", "x", "buy", "buy ", "buy chick", "buy chick ", "buy chick 1", "buy chick 1 ", "buy chick 1 9 ", "buy chick 1 9 9", "buy chick 1 9 x", " buy chick 1 9", "buy  chick 1 9", "buy chick  1 9", "buy chick 1  9",
		"buy\tchick 1 9", "buy chick 1\t9", "buy chick 1 9\r", "buy chick 1,9", "Buy chick 1 9", "BUY chick 1 9", "buys chick 1 9", "bu chick 1 9", "1 chick 1 9", "chick 1 9", "chick buy 1 9", " chick 1 9", "buy 1 9",
		"buy  1 9", "die  1 9", "drip  9", "drip", "drip chick", "drip chick ", "drip chick 0 9", "drip chick 1 9", "drip chick 9 ", "drip  chick 9", "drip chick x",
		"buy chick 01 9", "buy chick 1 09", "buy chick 1 00", "buy chick 00 9", "buy chick +1 9", "buy chick 1 +9", "buy chick -1 9", "buy chick 1 -9", "buy chick -0 9", "buy chick 1 -0", "buy chick - 9", "buy chick 1 -",
		"buy chick x 9", "buy chick 1 x", "buy chick 1 9x", "buy chick 0x1 9", "buy chick 1 1_0", "buy chick 1.0 9", "buy chick 1 9.0", "buy chick 1e3 9000", "buy chick \u0661 9", "buy chick 1 \xff",
		"buy chick 10000000 9", "buy chick 1 10000000", "buy chick 0000001 9", "buy chick 1 00000009", "drip chick 10000000", "drip chick 00", "drip chick -0", "drip chick 18446744073709551616", "buy chick 9223372036854775808 9",
		"die chick 1", "sell chick 1", "back chick 1", "die chick", "sell 1 9", "back chick 1 9 9", "end 0", "end", "buy nobody 1", "die nobody x 9",
	} {
		errors[row+"\n"] = paperError{1, api.ErrForm}
	}
	return errors
}

// textErrors are of whole papers.
func textErrors() map[string]paperError {
	const bought, sold, nobody = "buy chick 10 5000\n", "sell chick 1 480\n", "buy nobody 1 9\n"
	return map[string]paperError{
		"x":                                    {1, api.ErrForm},
		"buy chick 10 5000":                    {1, api.ErrForm},
		bought + "x":                           {2, api.ErrForm},
		bought + " ":                           {2, api.ErrForm},
		bought + "\n":                          {2, api.ErrForm},
		bought + "\n" + sold:                   {2, api.ErrForm},
		bought + sold + "sell chick 1 480":     {3, api.ErrForm},
		bought + "sell chick\n" + "buy\n":      {2, api.ErrForm},
		strings.TrimSuffix(examplePaper, "\n"): {4, api.ErrForm},
		// What is not as said comes before names, and names before the ledger's errors.
		nobody:                           {1, api.ErrMissing},
		bought + nobody:                  {2, api.ErrMissing},
		bought + nobody + nobody:         {2, api.ErrMissing},
		nobody + "x\n":                   {2, api.ErrForm},
		nobody + bought + "sell chick 1": {3, api.ErrForm},
		sold + nobody:                    {2, api.ErrMissing},
		sold + "drip nobody 0\n":         {2, api.ErrMissing},
		"sell nobody 9999999 9999999\n":  {1, api.ErrMissing},
		"buy chic 1 9\n":                 {1, api.ErrMissing},
		"buy chickk 1 9\n":               {1, api.ErrMissing},
		"buy Chick 1 9\n":                {1, api.ErrMissing},
		"buy 0 1 9\n":                    {1, api.ErrMissing},
		"buy - 1 9\n":                    {1, api.ErrMissing},
		"buy \xff\x00 1 9\n":             {1, api.ErrMissing},
		"buy chick\r 1 9\n":              {1, api.ErrMissing},
		"buy chick\t 1 9\n":              {1, api.ErrMissing},
		"drip buy 9\n":                   {1, api.ErrMissing},
		"drip " + strings.Repeat("a", 7000) + " 9\n": {1, api.ErrMissing},
		sold:                                    {0, api.ErrShort},
		sold + bought:                           {0, api.ErrShort},
		"drip chick 1\n":                        {0, api.ErrShort},
		"drip chick 9999999\n":                  {0, api.ErrRange},
		"buy chick 9999999 9\n":                 {0, api.ErrRange},
		"buy chick 1 1000001\n":                 {0, api.ErrRange},
		"buy chick 0 9\n":                       {0, api.ErrForm},
		bought + "back chick 0 0\n":             {0, api.ErrForm},
		"buy chick 9 8\n":                       {0, api.ErrClash},
		bought + "die chick 10 1\n":             {0, api.ErrClash},
		strings.Repeat(bought, 200):             {0, api.OK},
		strings.Repeat(bought, 201):             {0, api.ErrFull},
		strings.Repeat(sold, 201):               {0, api.ErrFull},
		strings.Repeat(sold, 201) + nobody:      {202, api.ErrMissing},
		strings.Repeat(bought, 201) + "x":       {202, api.ErrForm},
		strings.Repeat("drip chick 0\n", 200):   {0, api.OK},
		strings.Repeat("drip chick 00\n", 200):  {1, api.ErrForm},
		strings.Repeat("x", 8000):               {1, api.ErrForm},
		strings.Repeat("x", 8001):               {0, api.ErrLong},
		strings.Repeat("\n", 8001):              {0, api.ErrLong},
		strings.Repeat("drip chick 10\n", 571):  {0, api.ErrFull},
		strings.Repeat("drip chick 100\n", 534): {0, api.ErrLong},
		strings.Repeat(bought, 200) + strings.Repeat("x", 8000-200*len(bought)): {201, api.ErrForm},
		strings.Repeat(bought, 200) + strings.Repeat("x", 8001-200*len(bought)): {0, api.ErrLong},
	}
}

// P8.6: the first row that is not as said, then the first one that names no grade, then the error of the ledger.
func TestReadErrors(t *testing.T) {
	for _, errors := range []map[string]paperError{rowErrors(), textErrors()} {
		for text, c := range errors {
			l, row, e := trade.Read(exampleMarket(), text)
			if row != c.row || e != c.want {
				t.Errorf("%q: Read returns %d %d, not %d %d", text, row, e, c.row, c.want)
			}
			if e != api.OK && len(l) > 0 {
				t.Errorf("%q: Read returns %v with an error", text, l)
			}
			if row != 1 || e != api.ErrForm || len(text) > 4000 {
				continue
			}
			// It is the same row behind others.
			if _, row, e := trade.Read(exampleMarket(), examplePaper+text); row != 5 || e != api.ErrForm {
				t.Errorf("%q: Read returns %d %d behind the example", text, row, e)
			}
		}
	}
}
