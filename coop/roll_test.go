package coop_test

import (
	"slices"
	"strconv"
	"strings"
	"testing"

	"homarus/api"
	"homarus/coop"
)

// trueText returns the roll of a cooperative and deals, word by word, also if there is something wrong with them.
func trueText(c api.Coop, deals []api.Deal) string {
	text := ""
	row := func(word string, numbers ...int) {
		words := []string{word}
		for _, n := range numbers {
			words = append(words, strconv.Itoa(n))
		}
		text += strings.Join(words, " ") + "\n"
	}
	row("coop", c.Rates.Fee, c.Rates.Interest, c.Rates.Price, c.Rates.Credit, c.Till)
	for _, a := range c.Accounts {
		row("account", a.Balance, a.Debt, a.Season)
	}
	for _, d := range deals {
		row("deal", d.Kind, d.Member, d.Other, d.Amount)
	}
	row("end", len(deals))
	return text
}

// The rows of the chapter's example.
const (
	head     = "coop 20000 50000 15 50000 3000\n"
	accounts = "account 1000 0 0\naccount 500 2000 0\n"
	one      = "deal 1 0 0 10001\n"
	example  = head + accounts + one + "end 1\n"
)

// eachKind is a deal of each kind.
func eachKind() []api.Deal {
	return []api.Deal{slip(1, 1), fuel(0, 2), loan(1, 3), repay(0, 4), draw(1, 5), fine(1, 0, 6), bonus(7), buy(most)}
}

// P9.6: the chapter's example; no deal, one of each kind, some that are refused; and a roll as long as there may be.
func TestWriteAndRead(t *testing.T) {
	wide := api.Coop{Rates: api.Rates{Fee: 1000000, Interest: 1000000, Price: 1000, Credit: most}, Accounts: slices.Repeat([]api.Account{{Balance: most, Debt: most, Season: most}}, 12), Till: most}
	for text, x := range map[string]struct {
		c     api.Coop
		deals []api.Deal
	}{
		example:                                                   {exampleCoop(), []api.Deal{slip(0, 10001)}},
		head + accounts + "end 0\n":                               {exampleCoop(), nil},
		"coop 0 0 0 0 0\naccount 0 0 0\nend 0\n":                  {api.Coop{Accounts: make([]api.Account, 1)}, nil},
		"coop 1 2 3 4 5\naccount 8 7 6\nend 0\n":                  {api.Coop{Rates: api.Rates{Fee: 1, Interest: 2, Price: 3, Credit: 4}, Accounts: []api.Account{{Balance: 8, Debt: 7, Season: 6}}, Till: 5}, nil},
		"coop 0 0 0 0 0\naccount 0 0 0\n" + one + one + "end 2\n": {api.Coop{Accounts: make([]api.Account, 1)}, []api.Deal{slip(0, 10001), slip(0, 10001)}},
		head + accounts + "deal 1 1 0 1\ndeal 2 0 0 2\ndeal 3 1 0 3\ndeal 4 0 0 4\ndeal 5 1 0 5\ndeal 6 1 0 6\ndeal 7 0 0 7\ndeal 8 0 0 1000000000\nend 8\n": {
			exampleCoop(), eachKind(),
		},
		"coop 1000000 1000000 1000 1000000000 1000000000\n" + strings.Repeat("account 1000000000 1000000000 1000000000\n", 12) + strings.Repeat("deal 6 11 10 1000000000\n", 200) + "end 200\n": {
			wide, slices.Repeat([]api.Deal{fine(11, 10, most)}, 200),
		},
	} {
		if s, e := coop.Write(x.c, x.deals); s != text || e != api.OK {
			t.Errorf("Write returns %q %d, not %q", s, e, text)
		}
		if c, deals, row, e := coop.Read(text); !sameCoop(c, x.c) || !slices.Equal(deals, x.deals) || row != 0 || e != api.OK {
			t.Errorf("%q: Read returns %v %v %d %d", text, c, deals, row, e)
		}
	}
}

// P9.6: the errors of a roll: those of the cooperative, the number of deals, and the first deal that is not valid.
func TestWriteErrors(t *testing.T) {
	for _, x := range []struct {
		c     api.Coop
		deals []api.Deal
		want  api.Errno
	}{
		{exampleCoop(), slices.Repeat([]api.Deal{buy(1)}, 200), api.OK},
		{exampleCoop(), slices.Repeat([]api.Deal{buy(1)}, 201), api.ErrFull},
		{exampleCoop(), make([]api.Deal, 201), api.ErrFull},
		{exampleCoop(), make([]api.Deal, 200), api.ErrKind},
		{exampleCoop(), append(eachKind(), slip(2, 1)), api.ErrMissing},
		{exampleCoop(), []api.Deal{slip(0, 1), slip(0, 0), slip(2, 1)}, api.ErrRange},
		{exampleCoop(), []api.Deal{slip(0, 1), fine(1, 1, 1), slip(2, 1)}, api.ErrForm},
		// What comes before says nothing of a deal: one that is refused can be written.
		{exampleCoop(), []api.Deal{draw(0, 1000), draw(0, 1000)}, api.OK},
		{api.Coop{}, make([]api.Deal, 201), api.ErrShort},
	} {
		if text, e := coop.Write(x.c, x.deals); e != x.want || (e == api.OK) != (text != "") {
			t.Errorf("%v: Write returns %q %d, not %d", x.deals, text, e, x.want)
		}
	}
}

// rollError is the row and the error that Read returns for a text.
type rollError struct {
	row  int
	want api.Errno
}

// rowErrors are of single rows that are not as said, behind the first two accounts.
func rowErrors() map[string]rollError {
	errors := map[string]rollError{}
	for _, row := range []string{
		"", " ", "x", "deal", "deal ", "deal 1", "deal 1 0 0", "deal 1 0 0 ", "deal 1 0 0 9 ", "deal 1 0 0 9 9", " deal 1 0 0 9", "deal  1 0 0 9", "deal 1  0 0 9", "deal 1 0 0  9", "Deal 1 0 0 9", "DEAL 1 0 0 9", "deals 1 0 0 9",
		"dea 1 0 0 9", "1 0 0 9", "deal\t1 0 0 9", "deal 1 0 0\t9", "deal 1 0 0 9\r", "deal 1,0 0 9", "deal 01 0 0 9", "deal 1 00 0 9", "deal 1 0 00 9", "deal 1 0 0 09", "deal 0 0 0 00", "deal +1 0 0 9", "deal 1 0 0 +9",
		"deal -1 0 0 9", "deal 1 -0 0 9", "deal 1 0 -1 9", "deal 1 0 0 -9", "deal 1 0 0 -", "deal x 0 0 9", "deal 1 0 0 x", "deal 1 0 0 9x", "deal 0x1 0 0 9", "deal 1 0 0 1_0", "deal 1 0 0 9.0", "deal 1 0 0 1e3",
		"deal 1 0 0 \u0661", "deal 1 0 0 \xff", "deal 1 0 0 10000000000", "deal 10000000000 0 0 1", "deal 1 0 0 0000000001", "deal 1 0 0 9223372036854775808", "deal 1 0 0 18446744073709551617",
		"account", "account 1", "account 1 0", "account 1 0 0 ", "account 1 0 0 0", "account 1 0 x", "account -1 0 0", "account 01 0 0", "account  1 0 0", "accounts 1 0 0", "Account 1 0 0", "account 10000000000 0 0",
		"coop", "coop 0 0 0 0 0", "coop 20000 50000 15 50000 3000", "coop 0 0 0 0", "end", "end ", "end x", "end 1", "end 00", "end -0", "end 0 0", "end  0", " end 0", "End 0", "end 10000000000",
	} {
		errors[head+accounts+row+"\n"] = rollError{4, api.ErrForm}
		errors[head+accounts+one+row+"\n"] = rollError{5, api.ErrForm}
	}
	delete(errors, head+accounts+one+"end 1\n")
	return errors
}

// headErrors are of the first row.
func headErrors() map[string]rollError {
	errors := map[string]rollError{}
	for _, row := range []string{
		"", " ", "x", "coop", "coop ", "coop 0", "coop 0 0 0 0", "coop 0 0 0 0 ", "coop 0 0 0 0 0 ", "coop 0 0 0 0 0 0", " coop 0 0 0 0 0", "coop  0 0 0 0 0", "coop 0 0 0 0  0", "Coop 0 0 0 0 0", "coops 0 0 0 0 0", "0 0 0 0 0",
		"coop 00 0 0 0 0", "coop 0 0 0 0 -1", "coop 0 0 0 0 +1", "coop 0 0 x 0 0", "coop 0 10000000000 0 0 0", "coop 0 0 0 0 0\r", "coop\t0 0 0 0 0", "account 0 0 0", "deal 1 0 0 1", "end 0",
	} {
		errors[row] = rollError{1, api.ErrForm}
		errors[row+"\n"] = rollError{1, api.ErrForm}
		errors[row+"\naccount 0 0 0\nend 0\n"] = rollError{1, api.ErrForm}
	}
	return errors
}

func rows(row string, many int) string { return strings.Repeat(row, many) }

// textErrors are of whole rolls whose rows are not as said.
func textErrors() map[string]rollError {
	const end = "end 1\n"
	return map[string]rollError{
		strings.TrimSuffix(head, "\n"):         {1, api.ErrForm},
		head:                                   {2, api.ErrForm},
		head + "x":                             {2, api.ErrForm},
		head + "account 1000 0 0":              {2, api.ErrForm},
		head + accounts:                        {4, api.ErrForm},
		head + accounts + one:                  {5, api.ErrForm},
		head + accounts + "end 0":              {4, api.ErrForm},
		head + accounts + one + "end 1":        {5, api.ErrForm},
		head + accounts + one + "end 0\n":      {5, api.ErrForm},
		head + accounts + one + "end 2\n":      {5, api.ErrForm},
		head + accounts + one + one + end:      {6, api.ErrForm},
		head + accounts + end + one:            {4, api.ErrForm},
		head + one + accounts + end:            {3, api.ErrForm},
		head + accounts + one + accounts:       {5, api.ErrForm},
		head + head + accounts + "end 0\n":     {2, api.ErrForm},
		accounts + head + "end 0\n":            {1, api.ErrForm},
		example + "\n":                         {6, api.ErrForm},
		example + " ":                          {6, api.ErrForm},
		example + "x":                          {6, api.ErrForm},
		example + one:                          {6, api.ErrForm},
		example + end:                          {6, api.ErrForm},
		example + example:                      {6, api.ErrForm},
		"\n" + example:                         {1, api.ErrForm},
		" " + example:                          {1, api.ErrForm},
		rows("x", 8000):                        {1, api.ErrForm},
		rows("x", 8001):                        {0, api.ErrLong},
		rows("\n", 8001):                       {0, api.ErrLong},
		example + rows("x", 8000-len(example)): {6, api.ErrForm},
		example + rows("x", 8001-len(example)): {0, api.ErrLong},
	}
}

// bookErrors are of rolls whose rows are nearly all as said: what is not comes before the errors of the cooperative, and these before those of the deals.
func bookErrors() map[string]rollError {
	return map[string]rollError{
		head + "end 0\n":       {0, api.ErrShort},
		head + one + "end 1\n": {0, api.ErrShort},
		head + "end 0\nx":      {3, api.ErrForm},
		head + rows("account 0 0 0\n", 12) + "end 0\n":                {0, api.OK},
		head + rows("account 0 0 0\n", 13) + "end 0\n":                {0, api.ErrFull},
		"coop 1000001 0 0 0 0\nend 0\n":                               {0, api.ErrRange},
		"coop 9999999999 0 0 0 0\naccount 0 0 0\nend 0\n":             {0, api.ErrRange},
		"coop 0 0 0 0 9999999999\naccount 0 0 0\nend 0\n":             {0, api.ErrRange},
		"coop 0 0 0 0 0\naccount 0 0 9999999999\nend 0\n":             {0, api.ErrRange},
		"coop 0 0 0 0 0\naccount 1 0 0\nend 0\n":                      {0, api.ErrClash},
		"coop 0 0 0 0 0\naccount 1 0 0\ndeal 0 0 0 0\nend 1\n":        {0, api.ErrClash},
		head + accounts + "deal 0 0 0 1\nend 1\n":                     {0, api.ErrKind},
		head + accounts + "deal 9 0 0 1\nend 1\n":                     {0, api.ErrKind},
		head + accounts + "deal 9999999999 0 0 1\nend 1\n":            {0, api.ErrKind},
		head + accounts + "deal 1 2 0 1\nend 1\n":                     {0, api.ErrMissing},
		head + accounts + "deal 1 0 1 1\nend 1\n":                     {0, api.ErrForm},
		head + accounts + "deal 6 1 1 1\nend 1\n":                     {0, api.ErrForm},
		head + accounts + "deal 6 0 2 1\nend 1\n":                     {0, api.ErrMissing},
		head + accounts + "deal 7 1 0 1\nend 1\n":                     {0, api.ErrForm},
		head + accounts + "deal 1 0 0 0\nend 1\n":                     {0, api.ErrRange},
		head + accounts + "deal 1 0 0 1000000001\nend 1\n":            {0, api.ErrRange},
		head + accounts + "deal 1 0 0 9999999999\nend 1\n":            {0, api.ErrRange},
		head + accounts + one + "deal 5 0 0 9999\nend 2\n":            {0, api.OK},
		head + accounts + rows(one, 200) + "end 200\n":                {0, api.OK},
		head + accounts + rows(one, 201) + "end 201\n":                {0, api.ErrFull},
		head + accounts + rows("deal 0 0 0 0\n", 201) + "end 201\n":   {0, api.ErrFull},
		head + rows(one, 201) + "end 201\n":                           {0, api.ErrShort},
		head + accounts + rows(one, 201) + "end 200\n":                {205, api.ErrForm},
		head + accounts + rows("deal 0 0 0 0\n", 600) + "end 600\n":   {0, api.ErrFull},
		head + accounts + rows("deal 0 0 0 0\n", 612) + "end 600\n":   {0, api.ErrLong},
		"coop 1000001 0 0 0 0\naccount 0 0 0\ndeal 0 0 0 0\nend 2\n":  {4, api.ErrForm},
		"coop 1000001 0 0 0 0\naccount 0 0 0\ndeal 0 0 0 00\nend 1\n": {3, api.ErrForm},
	}
}

// P9.6: the first row that is not as said; otherwise the error of what the roll says.
func TestReadErrors(t *testing.T) {
	for _, errors := range []map[string]rollError{rowErrors(), headErrors(), textErrors(), bookErrors()} {
		for text, x := range errors {
			c, deals, row, e := coop.Read(text)
			if row != x.row || e != x.want {
				t.Errorf("%q: Read returns %d %d, not %d %d", text, row, e, x.row, x.want)
			}
			if e != api.OK && (!sameCoop(c, api.Coop{}) || len(deals) > 0) {
				t.Errorf("%q: Read returns %v %v with an error", text, c, deals)
			}
		}
	}
}
