package coop_test

import (
	"math"
	"slices"
	"testing"

	"homarus/api"
	"homarus/coop"
)

func deal(kind, member, other, amount int) api.Deal {
	return api.Deal{Kind: kind, Member: member, Other: other, Amount: amount}
}

func slip(member, amount int) api.Deal { return deal(api.DealSlip, member, 0, amount) }

func fuel(member, amount int) api.Deal { return deal(api.DealFuel, member, 0, amount) }

func loan(member, amount int) api.Deal { return deal(api.DealLoan, member, 0, amount) }

func repay(member, amount int) api.Deal { return deal(api.DealRepay, member, 0, amount) }

func draw(member, amount int) api.Deal { return deal(api.DealDraw, member, 0, amount) }

func fine(member, other, amount int) api.Deal { return deal(api.DealFine, member, other, amount) }

func bonus(amount int) api.Deal { return deal(api.DealBonus, 0, 0, amount) }

func buy(amount int) api.Deal { return deal(api.DealBuy, 0, 0, amount) }

// doing is a deal with a cooperative, and what becomes of it.
type doing struct {
	c    api.Coop
	d    api.Deal
	want func(c *api.Coop)
}

// with returns the cooperative C with numbers of the account 0, and a till.
func with(a api.Account, till int) api.Coop {
	return changedCoop(func(c *api.Coop) { c.Accounts[0], c.Till = a, till })
}

// wages are slips, fuel, loans, and what is repaid, drawn, and paid as a fine.
func wages() map[string]doing {
	return map[string]doing{
		"slip of the example": {exampleCoop(), slip(0, 10001), func(c *api.Coop) { c.Accounts[0], c.Till = api.Account{Balance: 10800, Season: 10001}, 13001 }},
		"slip of a cent":      {exampleCoop(), slip(1, 1), func(c *api.Coop) { c.Accounts[1].Season, c.Till = 1, 3001 }},
		"slip with a full fee": {changedCoop(func(c *api.Coop) { c.Rates.Fee = 1000000 }), slip(0, 500), func(c *api.Coop) {
			c.Accounts[0].Season, c.Till = 500, 3500
		}},
		"slip without a fee": {changedCoop(func(c *api.Coop) { c.Rates.Fee = 0 }), slip(0, 500), func(c *api.Coop) {
			c.Accounts[0], c.Till = api.Account{Balance: 1500, Season: 500}, 3500
		}},
		"slip with an even fee": {exampleCoop(), slip(0, 50), func(c *api.Coop) { c.Accounts[0], c.Till = api.Account{Balance: 1049, Season: 50}, 3050 }},
		"slip with a little more": {exampleCoop(), slip(0, 51), func(c *api.Coop) {
			c.Accounts[0], c.Till = api.Account{Balance: 1049, Season: 51}, 3051
		}},
		"slip with the least part": {changedCoop(func(c *api.Coop) { c.Rates.Fee = 1 }), slip(0, 1), func(c *api.Coop) {
			c.Accounts[0].Season, c.Till = 1, 3001
		}},
		"slip with just a cent of fee": {changedCoop(func(c *api.Coop) { c.Rates.Fee = 1 }), slip(0, 1000000), func(c *api.Coop) {
			c.Accounts[0], c.Till = api.Account{Balance: 1000999, Season: 1000000}, 1003000
		}},
		"slip with a little more than a cent": {changedCoop(func(c *api.Coop) { c.Rates.Fee = 1 }), slip(0, 1000001), func(c *api.Coop) {
			c.Accounts[0], c.Till = api.Account{Balance: 1000999, Season: 1000001}, 1003001
		}},
		"loan with the least part": {changedCoop(func(c *api.Coop) { c.Rates.Interest = 1 }), loan(0, 1), func(c *api.Coop) {
			c.Accounts[0] = api.Account{Balance: 1001, Debt: 2}
		}},
		"a second slip":       {with(api.Account{Balance: 5, Season: 7}, 3000), slip(0, 50), func(c *api.Coop) { c.Accounts[0], c.Till = api.Account{Balance: 54, Season: 57}, 3050 }},
		"fuel of the example": {exampleCoop(), fuel(1, 30), func(c *api.Coop) { c.Accounts[1].Balance = 50 }},
		"fuel for all":        {with(api.Account{Balance: 45}, 3000), fuel(0, 3), func(c *api.Coop) { c.Accounts[0].Balance = 0 }},
		"fuel for nothing":    {changedCoop(func(c *api.Coop) { c.Rates.Price = 0 }), fuel(0, most), func(*api.Coop) {}},
		"loan of the example": {exampleCoop(), loan(0, 1010), func(c *api.Coop) { c.Accounts[0] = api.Account{Balance: 2010, Debt: 1061} }},
		"loan up to credit":   {exampleCoop(), loan(1, 45714), func(c *api.Coop) { c.Accounts[1] = api.Account{Balance: 46214, Debt: 50000} }},
		"loan of a cent":      {exampleCoop(), loan(0, 1), func(c *api.Coop) { c.Accounts[0] = api.Account{Balance: 1001, Debt: 2} }},
		"loan at even interest": {exampleCoop(), loan(0, 20), func(c *api.Coop) {
			c.Accounts[0] = api.Account{Balance: 1020, Debt: 21}
		}},
		"loan at no interest": {changedCoop(func(c *api.Coop) { c.Rates.Interest = 0 }), loan(0, 50000), func(c *api.Coop) {
			c.Accounts[0] = api.Account{Balance: 51000, Debt: 50000}
		}},
		"loan at full interest": {changedCoop(func(c *api.Coop) { c.Rates.Interest = 1000000 }), loan(0, 25000), func(c *api.Coop) {
			c.Accounts[0] = api.Account{Balance: 26000, Debt: 50000}
		}},
		"loan without a till":    {with(api.Account{Debt: 500}, 0), loan(0, 100), func(c *api.Coop) { c.Accounts[0] = api.Account{Balance: 100, Debt: 605} }},
		"repaid of the example":  {exampleCoop(), repay(1, 400), func(c *api.Coop) { c.Accounts[1] = api.Account{Balance: 100, Debt: 1600} }},
		"repaid with the rest":   {exampleCoop(), repay(1, 500), func(c *api.Coop) { c.Accounts[1] = api.Account{Debt: 1500} }},
		"repaid wholly":          {with(api.Account{Balance: 10, Debt: 7, Season: 3}, 3000), repay(0, 7), func(c *api.Coop) { c.Accounts[0] = api.Account{Balance: 3, Season: 3} }},
		"repaid above credit":    {with(api.Account{Balance: 10, Debt: 50009}, 3000), repay(0, 7), func(c *api.Coop) { c.Accounts[0] = api.Account{Balance: 3, Debt: 50002} }},
		"drawn":                  {exampleCoop(), draw(0, 600), func(c *api.Coop) { c.Accounts[0].Balance, c.Till = 400, 2400 }},
		"all drawn":              {exampleCoop(), draw(0, 1000), func(c *api.Coop) { c.Accounts[0].Balance, c.Till = 0, 2000 }},
		"all drawn of the till":  {with(api.Account{Balance: 9}, 9), draw(0, 9), func(c *api.Coop) { c.Accounts[0], c.Till = api.Account{}, 0 }},
		"fine of the example":    {exampleCoop(), fine(0, 1, 300), func(c *api.Coop) { c.Accounts[0].Balance, c.Accounts[1].Balance = 700, 800 }},
		"fine of all":            {exampleCoop(), fine(1, 0, 500), func(c *api.Coop) { c.Accounts[0].Balance, c.Accounts[1].Balance = 1500, 0 }},
		"fine in an empty house": {with(api.Account{Balance: 2000}, 500), fine(0, 1, 1), func(c *api.Coop) { c.Accounts[0].Balance, c.Accounts[1].Balance = 1999, 501 }},
		"slip up to the most": {changedCoop(func(c *api.Coop) { c.Rates.Fee, c.Accounts[0].Season = 0, 1 }), slip(0, most-3000), func(c *api.Coop) {
			c.Accounts[0], c.Till = api.Account{Balance: most - 2000, Season: most - 2999}, most
		}},
	}
}

// givings are bonuses, and what the cooperative buys.
func givings() map[string]doing {
	seasons := func(till int, list ...int) api.Coop {
		return changedCoop(func(c *api.Coop) {
			c.Till, c.Accounts = till, nil
			for _, n := range list {
				c.Accounts = append(c.Accounts, api.Account{Balance: 10, Debt: 5, Season: n})
			}
		})
	}
	balances := func(list ...int) func(c *api.Coop) {
		return func(c *api.Coop) {
			for i, n := range list {
				c.Accounts[i] = api.Account{Balance: n, Debt: 5}
			}
		}
	}
	return map[string]doing{
		"bonus":                {seasons(500, 10001, 5000), bonus(100), balances(77, 43)},
		"bonus of all":         {seasons(110, 10001, 5000), bonus(100), balances(77, 43)},
		"bonus for one":        {seasons(500, 0, 0, 3), bonus(400), balances(10, 10, 410)},
		"bonus of a cent":      {seasons(500, 0, 4, 4), bonus(1), balances(10, 11, 10)},
		"bonus of three cents": {seasons(500, 4, 4), bonus(3), balances(12, 11)},
		"bought":               {exampleCoop(), buy(700), func(c *api.Coop) { c.Till = 2300 }},
		"all is bought":        {exampleCoop(), buy(3000), func(c *api.Coop) { c.Till = 0 }},
		"bought by the surplus": {changedCoop(func(c *api.Coop) { c.Accounts[1].Debt = 0 }), buy(1500), func(c *api.Coop) {
			c.Till = 1500
		}},
	}
}

// P9.2: what deals of each kind do, with the chapter's examples; and that Run does the same.
func TestDo(t *testing.T) {
	for _, deals := range []map[string]doing{wages(), givings()} {
		for name, x := range deals {
			want := cloneCoop(x.c)
			x.want(&want)
			if c, e := coop.Do(x.c, x.d); !sameCoop(c, want) || e != api.OK {
				t.Errorf("%s: Do returns %v %d, not %v", name, c, e, want)
			}
			if c, errors, e := coop.Run(x.c, []api.Deal{x.d}); !sameCoop(c, want) || !slices.Equal(errors, []api.Errno{api.OK}) || e != api.OK {
				t.Errorf("%s: Run returns %v %v %d, not %v", name, c, errors, e, want)
			}
		}
	}
	c, _ := coop.Do(exampleCoop(), slip(0, 10001))
	if n, e := coop.Surplus(c); n != 3701 || e != api.OK {
		t.Errorf("Surplus returns %d %d", n, e)
	}
}

// dealError is a deal with a cooperative, and the error of it.
type dealError struct {
	c    api.Coop
	d    api.Deal
	want api.Errno
}

// formErrors are of deals that are not valid.
func formErrors() map[string]dealError {
	errors := map[string]dealError{
		"nothing":                  {exampleCoop(), api.Deal{}, api.ErrKind},
		"kind 9":                   {exampleCoop(), deal(9, 0, 0, 1), api.ErrKind},
		"kind -1":                  {exampleCoop(), deal(-1, 0, 0, 1), api.ErrKind},
		"any kind":                 {exampleCoop(), deal(math.MaxInt, 0, 0, 1), api.ErrKind},
		"kind before all":          {exampleCoop(), deal(0, 2, 2, 0), api.ErrKind},
		"kind 9 before all":        {exampleCoop(), deal(9, -1, -1, 0), api.ErrKind},
		"fine to nobody":           {exampleCoop(), fine(0, 2, 1), api.ErrMissing},
		"fine to -1":               {exampleCoop(), fine(0, -1, 1), api.ErrMissing},
		"fine of nobody":           {exampleCoop(), fine(2, 0, 1), api.ErrMissing},
		"fine of -1":               {exampleCoop(), fine(-1, 0, 1), api.ErrMissing},
		"fine of nobody to nobody": {exampleCoop(), fine(2, 2, 1), api.ErrMissing},
		"fine to oneself":          {exampleCoop(), fine(1, 1, 1), api.ErrForm},
		"fine of 0 to oneself":     {exampleCoop(), fine(0, 0, 1), api.ErrForm},
		"fine to nobody of 0":      {exampleCoop(), fine(0, 2, 0), api.ErrMissing},
		"fine of 0 to oneself, 0":  {exampleCoop(), fine(0, 0, 0), api.ErrForm},
		"member before other":      {exampleCoop(), deal(api.DealDraw, 2, 1, 1), api.ErrMissing},
		"other before amount":      {exampleCoop(), deal(api.DealDraw, 1, 1, 0), api.ErrForm},
		"amount before the rest":   {exampleCoop(), draw(1, most+1), api.ErrRange},
		"one member":               {api.Coop{Accounts: make([]api.Account, 1)}, fine(0, 1, 1), api.ErrMissing},
	}
	for kind, word := range []string{api.DealSlip: "slip", api.DealFuel: "fuel", api.DealLoan: "loan", api.DealRepay: "repay", api.DealDraw: "draw", api.DealFine: "fine", api.DealBonus: "bonus", api.DealBuy: "buy"} {
		if word == "" {
			continue
		}
		add := func(name string, member, other, amount int, want api.Errno) {
			errors[word+": "+name] = dealError{exampleCoop(), deal(kind, member, other, amount), want}
		}
		other := 0
		if kind == api.DealFine {
			other = 1
		} else {
			add("other", 0, 1, 1, api.ErrForm)
			add("other -1", 0, -1, 1, api.ErrForm)
			add("any other", 0, math.MaxInt, 1, api.ErrForm)
			add("other before amount", 0, 1, 0, api.ErrForm)
		}
		nobody := api.ErrMissing
		if kind == api.DealBonus || kind == api.DealBuy {
			nobody = api.ErrForm
			add("of 1", 1, 0, 1, nobody)
		}
		add("of 2", 2, other, 1, nobody)
		add("of -1", -1, other, 1, nobody)
		add("of anybody", math.MinInt, other, 1, nobody)
		add("of 2, 0", 2, other, 0, nobody)
		add("0", 0, other, 0, api.ErrRange)
		add("-1", 0, other, -1, api.ErrRange)
		add("1000000001", 0, other, most+1, api.ErrRange)
		add("least of all", 0, other, math.MinInt, api.ErrRange)
		add("greatest of all", 0, other, math.MaxInt, api.ErrRange)
	}
	return errors
}

// refusals are of valid deals for which there is too little, or too much.
func refusals() map[string]dealError {
	rich := func(c *api.Coop) {
		c.Accounts[0], c.Accounts[1], c.Till = api.Account{Balance: 10, Season: 1}, api.Account{Debt: most}, most
	}
	return map[string]dealError{
		"fuel of the example":        {exampleCoop(), fuel(1, 40), api.ErrShort},
		"fuel, a unit too much":      {exampleCoop(), fuel(1, 34), api.ErrShort},
		"fuel, a cent too little":    {with(api.Account{Balance: 44}, 3000), fuel(0, 3), api.ErrShort},
		"fuel, the most":             {changedCoop(func(c *api.Coop) { c.Rates.Price = 1000 }), fuel(0, most), api.ErrShort},
		"loan of the example":        {exampleCoop(), loan(0, 60000), api.ErrOver},
		"loan, a cent too much":      {exampleCoop(), loan(1, 45715), api.ErrOver},
		"loan, interest too much":    {exampleCoop(), loan(0, 47620), api.ErrOver},
		"loan without credit":        {changedCoop(func(c *api.Coop) { c.Rates.Credit = 0 }), loan(0, 1), api.ErrOver},
		"loan, over before full":     {changedCoop(func(c *api.Coop) { rich(c); c.Accounts[0].Balance = most }), loan(0, 50000), api.ErrOver},
		"repaid of the example":      {exampleCoop(), repay(1, 2001), api.ErrOver},
		"repaid without debts":       {exampleCoop(), repay(0, 1), api.ErrOver},
		"repaid with too little":     {exampleCoop(), repay(1, 501), api.ErrShort},
		"repaid with all but a cent": {exampleCoop(), repay(1, 2000), api.ErrShort},
		"drawn of the example":       {exampleCoop(), draw(0, 1001), api.ErrShort},
		"drawn of the till":          {changedCoop(func(c *api.Coop) { c.Till, c.Accounts[0].Debt = 999, 5000 }), draw(0, 1000), api.ErrShort},
		"drawn of both":              {changedCoop(func(c *api.Coop) { c.Till = 999 }), draw(0, 1001), api.ErrShort},
		"fine, a cent too much":      {exampleCoop(), fine(0, 1, 1001), api.ErrShort},
		"fine, short before full":    {changedCoop(func(c *api.Coop) { rich(c); c.Accounts[1].Balance = most }), fine(0, 1, 11), api.ErrShort},
		"bonus of the example":       {exampleCoop(), bonus(5), api.ErrMissing},
		"bonus of the surplus":       {exampleCoop(), bonus(3500), api.ErrMissing},
		"bonus, over before missing": {exampleCoop(), bonus(3501), api.ErrOver},
		"bonus, a cent too much":     {changedCoop(func(c *api.Coop) { c.Accounts[0].Season = 1 }), bonus(3501), api.ErrOver},
		"bonus, over before full":    {with(api.Account{Balance: 10, Season: 1}, 20), bonus(most), api.ErrOver},
		"bought, the till is short":  {exampleCoop(), buy(3001), api.ErrShort},
		"bought, short before over":  {exampleCoop(), buy(9999), api.ErrShort},
		"bought, over the surplus":   {changedCoop(func(c *api.Coop) { c.Accounts[1].Debt = 0 }), buy(1501), api.ErrOver},

		"slip, the till is full":           {changedCoop(func(c *api.Coop) { c.Rates.Fee = 1000000 }), slip(0, most-2999), api.ErrFull},
		"slip, the season is full":         {with(api.Account{Season: 1}, 500), slip(0, most), api.ErrFull},
		"slip, the till is full by a cent": {changedCoop(rich), slip(1, 1), api.ErrFull},
		"slip, the balance is full": {changedCoop(func(c *api.Coop) {
			c.Rates.Fee, c.Accounts[0].Balance, c.Accounts[1].Debt = 0, most, most
		}), slip(0, 1), api.ErrFull},
		"loan, the balance is full": {changedCoop(func(c *api.Coop) { rich(c); c.Accounts[0].Balance = most }), loan(0, 1), api.ErrFull},
		"fine, the balance is full": {changedCoop(func(c *api.Coop) { rich(c); c.Accounts[1].Balance = most }), fine(0, 1, 1), api.ErrFull},
		"bonus, a balance is full":  {changedCoop(func(c *api.Coop) { rich(c); c.Accounts[0].Balance = most - 1 }), bonus(2), api.ErrFull},
		"bonus, another one is full": {changedCoop(func(c *api.Coop) {
			rich(c)
			c.Accounts[1].Balance, c.Accounts[1].Season = most, 1
		}), bonus(2), api.ErrFull},
	}
}

// P9.2: the error of a deal, and that with which it is refused; it changes nothing in Run. P9.6: a roll has the errors of deals, but no refusals.
func TestDealErrors(t *testing.T) {
	for i, errors := range []map[string]dealError{formErrors(), refusals()} {
		for name, x := range errors {
			if e := coop.Check(x.c); e != api.OK {
				t.Fatalf("%s: Check returns %d", name, e)
			}
			if c, e := coop.Do(x.c, x.d); e != x.want || !sameCoop(c, api.Coop{}) {
				t.Errorf("%s: Do returns %v %d, not %d", name, c, e, x.want)
			}
			if c, list, e := coop.Run(x.c, []api.Deal{x.d}); e != api.OK || !slices.Equal(list, []api.Errno{x.want}) || !sameCoop(c, x.c) {
				t.Errorf("%s: Run returns %v %v %d, not %d", name, c, list, e, x.want)
			}
			want := x.want
			if i > 0 {
				want = api.OK
			}
			if _, e := coop.Write(x.c, []api.Deal{x.d}); e != want {
				t.Errorf("%s: Write returns %d, not %d", name, e, want)
			}
		}
	}
	for _, x := range []dealError{
		// One below what is refused is done.
		{changedCoop(func(c *api.Coop) { c.Accounts[0].Season, c.Rates.Fee = 1, 1000000 }), slip(0, most-3000), api.OK},
		{changedCoop(func(c *api.Coop) { c.Rates.Credit = 2 }), loan(0, 1), api.OK},
		{changedCoop(func(c *api.Coop) { c.Rates.Credit = 1 }), loan(0, 1), api.ErrOver},
		{changedCoop(func(c *api.Coop) { c.Accounts[0].Season = 1 }), bonus(3500), api.OK},
		{changedCoop(func(c *api.Coop) { c.Accounts[0] = api.Account{Season: most} }), bonus(4500), api.OK},
		{changedCoop(func(c *api.Coop) { c.Accounts[0] = api.Account{Season: most} }), bonus(4501), api.ErrOver},
	} {
		if _, e := coop.Do(x.c, x.d); e != x.want {
			t.Errorf("%v %v: Do returns %d, not %d", x.c, x.d, e, x.want)
		}
	}
}

// P9.2: deals are done one after the other; one with an error changes nothing.
func TestRun(t *testing.T) {
	deals := []api.Deal{slip(0, 10001), fuel(1, 40), fuel(1, 30), bonus(701), fine(0, 1, 300), {}, slip(1, 5000), loan(1, 60000), repay(1, 2000), draw(0, 5000), buy(3551), buy(3000), bonus(551), bonus(100), bonus(100), fine(0, 2, 1), draw(1, most+1)}
	want := []api.Errno{api.OK, api.ErrShort, api.OK, api.OK, api.OK, api.ErrKind, api.OK, api.ErrOver, api.OK, api.OK, api.ErrOver, api.OK, api.ErrOver, api.OK, api.ErrMissing, api.ErrMissing, api.ErrRange}
	c, errors, e := coop.Run(exampleCoop(), deals)
	if e != api.OK || !slices.Equal(errors, want) {
		t.Errorf("Run returns %v %d", errors, e)
	}
	// The slip: 10800 and 500, till 13001; fuel: 10800 and 50; the bonus for 0 alone: 11501; the fine: 11201 and 350; the slip: 350 + 4900, till 18001; repaid: 3250; drawn: 6201, till 13001, surplus 3550; bought: till 10001, surplus 550; the bonus for 1 alone: 3350.
	end := exampleCoop()
	end.Accounts, end.Till = []api.Account{{Balance: 6201}, {Balance: 3350}}, 10001
	if !sameCoop(c, end) {
		t.Errorf("Run returns %v, not %v", c, end)
	}
	if c, errors, e := coop.Run(exampleCoop(), nil); !sameCoop(c, exampleCoop()) || len(errors) > 0 || e != api.OK {
		t.Errorf("Run returns %v %v %d", c, errors, e)
	}
	for many, want := range map[int]api.Errno{200: api.OK, 201: api.ErrFull, 100000: api.ErrFull} {
		c, errors, e := coop.Run(exampleCoop(), make([]api.Deal, many))
		if e != want || e == api.OK && (!sameCoop(c, exampleCoop()) || !slices.Equal(errors, slices.Repeat([]api.Errno{api.ErrKind}, many))) || e != api.OK && (!sameCoop(c, api.Coop{}) || len(errors) > 0) {
			t.Errorf("Run of %d deals returns %v %v %d, not %d", many, c, errors, e, want)
		}
	}
}
