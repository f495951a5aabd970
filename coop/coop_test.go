package coop_test

import (
	"math"
	"slices"
	"testing"

	"homarus/api"
	"homarus/coop"
)

const most = 1000000000

// exampleCoop is the cooperative C of the chapter's examples.
func exampleCoop() api.Coop {
	return api.Coop{
		Rates:    api.Rates{Fee: 20000, Interest: 50000, Price: 15, Credit: 50000},
		Accounts: []api.Account{{Balance: 1000}, {Balance: 500, Debt: 2000}},
		Till:     3000,
	}
}

// changedCoop returns the cooperative C with a change.
func changedCoop(change func(c *api.Coop)) api.Coop {
	c := exampleCoop()
	change(&c)
	return c
}

// cloneCoop returns a cooperative with memory of its own.
func cloneCoop(c api.Coop) api.Coop {
	c.Accounts = slices.Clone(c.Accounts)
	return c
}

func sameCoop(a, b api.Coop) bool {
	return a.Rates == b.Rates && a.Till == b.Till && slices.Equal(a.Accounts, b.Accounts)
}

// coopError is a cooperative, and the first error that it has.
type coopError struct {
	c    api.Coop
	want api.Errno
}

// rateErrors are about the rates.
func rateErrors() map[string]coopError {
	errors := map[string]coopError{}
	add := func(name string, rates api.Rates, want api.Errno) {
		errors[name] = coopError{changedCoop(func(c *api.Coop) { c.Rates = rates }), want}
	}
	add("no rates", api.Rates{}, api.OK)
	add("the greatest rates", api.Rates{Fee: 1000000, Interest: 1000000, Price: 1000, Credit: most}, api.OK)
	add("fee -1", api.Rates{Fee: -1}, api.ErrRange)
	add("fee 1000001", api.Rates{Fee: 1000001}, api.ErrRange)
	add("interest -1", api.Rates{Interest: -1}, api.ErrRange)
	add("interest 1000001", api.Rates{Interest: 1000001}, api.ErrRange)
	add("price -1", api.Rates{Price: -1}, api.ErrRange)
	add("price 1001", api.Rates{Price: 1001}, api.ErrRange)
	add("credit -1", api.Rates{Credit: -1}, api.ErrRange)
	add("credit 1000000001", api.Rates{Credit: most + 1}, api.ErrRange)
	add("any fee", api.Rates{Fee: math.MinInt}, api.ErrRange)
	add("any credit", api.Rates{Credit: math.MaxInt}, api.ErrRange)
	return errors
}

// accountErrors are about the accounts and the till.
func accountErrors() map[string]coopError {
	errors := map[string]coopError{}
	add := func(name string, want api.Errno, till int, accounts ...api.Account) {
		errors[name] = coopError{changedCoop(func(c *api.Coop) { c.Till, c.Accounts = till, accounts }), want}
	}
	add("no account", api.ErrShort, 3000)
	add("one account", api.OK, 3000, api.Account{})
	add("12 accounts", api.OK, 0, make([]api.Account, 12)...)
	add("13 accounts", api.ErrFull, 0, make([]api.Account, 13)...)
	add("13 wrong accounts", api.ErrFull, -1, slices.Repeat([]api.Account{{Debt: -1}}, 13)...)
	add("balance -1", api.ErrRange, 5, api.Account{}, api.Account{Balance: -1})
	add("balance greatest", api.OK, most, api.Account{}, api.Account{Balance: most})
	add("balance too great", api.ErrRange, most, api.Account{Debt: most}, api.Account{Balance: most + 1})
	add("debt -1", api.ErrRange, 5, api.Account{Debt: -1})
	add("debt greatest", api.OK, 0, api.Account{Debt: most})
	add("debt too great", api.ErrRange, 0, api.Account{Debt: most + 1})
	add("season -1", api.ErrRange, 5, api.Account{Season: -1})
	add("season greatest", api.OK, 0, api.Account{Season: most})
	add("season too great", api.ErrRange, 0, api.Account{Season: most + 1})
	add("the last account", api.ErrRange, 0, append(make([]api.Account, 11), api.Account{Season: -1})...)
	add("till 0", api.OK, 0, api.Account{})
	add("till -1", api.ErrRange, -1, api.Account{Debt: 5})
	add("till greatest", api.OK, most, api.Account{})
	add("till too great", api.ErrRange, most+1, api.Account{})
	add("any till", api.ErrRange, math.MinInt, api.Account{})
	add("any numbers", api.ErrRange, math.MaxInt, api.Account{Balance: math.MinInt, Debt: math.MaxInt})
	add("surplus 0", api.OK, 1, api.Account{Balance: 3}, api.Account{Debt: 2})
	add("surplus -1", api.ErrClash, 1, api.Account{Balance: 4}, api.Account{Debt: 2})
	add("surplus -1 of the till", api.ErrClash, 0, api.Account{Balance: 3}, api.Account{Debt: 2})
	add("seasons are no money", api.ErrClash, 0, api.Account{Balance: 1, Season: 9})
	add("least surplus", api.ErrClash, 0, slices.Repeat([]api.Account{{Balance: most}}, 12)...)
	add("greatest surplus", api.OK, most, slices.Repeat([]api.Account{{Debt: most}}, 12)...)
	return errors
}

// orderErrors have two errors, of which the first one is named.
func orderErrors() map[string]coopError {
	return map[string]coopError{
		"C":                        {exampleCoop(), api.OK},
		"C without till":           {changedCoop(func(c *api.Coop) { c.Till, c.Accounts[1].Debt = 0, 0 }), api.ErrClash},
		"nothing":                  {api.Coop{}, api.ErrShort},
		"an empty list":            {api.Coop{Accounts: []api.Account{}}, api.ErrShort},
		"rates before no account":  {changedCoop(func(c *api.Coop) { c.Rates.Credit, c.Accounts = -1, nil }), api.ErrRange},
		"fee before no account":    {changedCoop(func(c *api.Coop) { c.Rates.Fee, c.Accounts = 1000001, nil }), api.ErrRange},
		"price before 13 accounts": {changedCoop(func(c *api.Coop) { c.Rates.Price, c.Accounts = 1001, make([]api.Account, 13) }), api.ErrRange},
		"no account before till":   {changedCoop(func(c *api.Coop) { c.Accounts, c.Till = nil, -1 }), api.ErrShort},
		"account before surplus":   {changedCoop(func(c *api.Coop) { c.Accounts[0].Season, c.Accounts[1].Balance = -1, 99999 }), api.ErrRange},
		"till before surplus":      {changedCoop(func(c *api.Coop) { c.Till, c.Accounts[1].Balance = most+1, most }), api.ErrRange},
		"till before surplus -1":   {changedCoop(func(c *api.Coop) { c.Till = -1 }), api.ErrRange},
	}
}

// P9.1 to P9.3, P9.6: Check names the first error of a cooperative; all functions of a cooperative name it, too, before all others.
func TestCheck(t *testing.T) {
	for _, errors := range []map[string]coopError{rateErrors(), accountErrors(), orderErrors()} {
		for name, x := range errors {
			if e := coop.Check(x.c); e != x.want {
				t.Errorf("%s: Check returns %d, not %d", name, e, x.want)
			}
			if x.want == api.OK {
				continue
			}
			surplus, a := coop.Surplus(x.c)
			_, b := coop.Do(x.c, api.Deal{})
			_, list, c := coop.Run(x.c, make([]api.Deal, 201))
			_, d := coop.Shares(x.c, -1)
			text, e := coop.Write(x.c, make([]api.Deal, 201))
			if all := []api.Errno{a, b, c, d, e}; surplus != 0 || len(list) > 0 || text != "" || !slices.Equal(all, slices.Repeat([]api.Errno{x.want}, 5)) {
				t.Errorf("%s: the calls return %v, not %d", name, all, x.want)
			}
		}
	}
}

// P9.1: the surplus is the till and all debts, less all balances.
func TestSurplus(t *testing.T) {
	for want, c := range map[int]api.Coop{
		3500: exampleCoop(),
		3499: changedCoop(func(c *api.Coop) { c.Till-- }),
		3510: changedCoop(func(c *api.Coop) { c.Accounts[0].Debt = 10 }),
		3490: changedCoop(func(c *api.Coop) { c.Accounts[1].Balance += 10 }),
		500:  changedCoop(func(c *api.Coop) { c.Till = 0 }),
		0:    changedCoop(func(c *api.Coop) { c.Accounts[0].Balance = 4500 }),
		3000: changedCoop(func(c *api.Coop) { c.Accounts = []api.Account{{Season: 700}} }),
		7:    {Accounts: []api.Account{{}, {}, {Debt: 7}}},
		most: {Accounts: make([]api.Account, 1), Till: most},
		13 * most: {
			Accounts: slices.Repeat([]api.Account{{Debt: most, Season: most}}, 12), Till: most,
		},
	} {
		if n, e := coop.Surplus(c); n != want || e != api.OK {
			t.Errorf("%v: Surplus returns %d %d, not %d", c, n, e, want)
		}
	}
}
