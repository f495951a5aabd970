package coop_test

import (
	"math/rand"
	"slices"
	"strings"

	"homarus/api"
)

// random makes values; it begins with the same number each time.
type random struct{ *rand.Rand }

func newRandom() random { return random{rand.New(rand.NewSource(1))} }

func (r random) in(low, high int) int { return low + r.Intn(high-low+1) }

// of returns one of some numbers.
func (r random) of(list ...int) int { return list[r.Intn(len(list))] }

// money returns up to so much money, sometimes nothing, or all of it.
func (r random) money(up int) int { return r.of(0, up, r.in(0, up), r.in(0, up), r.in(0, min(up, 9))) }

// rates returns rates; fees are often none, and often odd.
func (r random) rates(up int) api.Rates {
	part := func() int { return r.of(0, 1000000, 20000, r.in(0, 1000000), r.in(1, 999)) }
	return api.Rates{Fee: part(), Interest: part(), Price: r.of(0, 1, r.in(0, 20), r.in(0, 1000)), Credit: r.money(up)}
}

// coop returns a valid cooperative of up to so many accounts, and with up to so much money in each number.
func (r random) coop(many, up int) api.Coop {
	c := api.Coop{Rates: r.rates(up)}
	owes := 0
	for range r.in(1, many) {
		a := api.Account{Balance: r.money(up), Debt: r.money(up), Season: r.money(up)}
		// Balances are as great as debts and the greatest till allow.
		a.Balance = min(a.Balance, max(0, up-owes+a.Debt))
		owes += a.Balance - a.Debt
		c.Accounts = append(c.Accounts, a)
	}
	least := max(0, owes)
	c.Till = r.of(least, r.in(least, up), r.in(least, up), up)
	return c
}

// deal returns a valid deal for a cooperative; its amount is often near to a number of the books.
func (r random) deal(c api.Coop, up int) api.Deal {
	d := api.Deal{Kind: r.in(api.DealSlip, api.DealBuy), Member: r.Intn(len(c.Accounts))}
	if d.Kind == api.DealFine && len(c.Accounts) == 1 || d.Kind == api.DealBonus || d.Kind == api.DealBuy {
		d.Kind, d.Member = max(d.Kind, api.DealBonus), 0
	}
	if d.Kind == api.DealFine {
		d.Other = (d.Member + r.in(1, len(c.Accounts)-1)) % len(c.Accounts)
	}
	a := c.Accounts[d.Member]
	near := r.of(a.Balance, a.Debt, c.Till, trueSurplus(c), c.Rates.Credit-a.Debt, most-c.Till, most-a.Season, most-a.Balance, a.Balance/max(1, c.Rates.Price)) + r.in(-1, 1)
	d.Amount = min(max(1, r.of(near, r.in(1, up), r.in(1, 1+up/10))), most)
	return d
}

// deals returns up to so many deals; some have an error, and many are refused.
func (r random) deals(c api.Coop, many, up int) []api.Deal {
	var list []api.Deal
	for range r.in(0, many) {
		d := r.deal(c, up)
		if r.Intn(12) == 0 {
			field := []*int{&d.Kind, &d.Member, &d.Other, &d.Amount}[r.Intn(4)]
			*field = r.in(-1, 12)
		}
		list = append(list, d)
	}
	return list
}

// own returns a slip, fuel, a loan, or what is repaid, of a member.
func (r random) own(member, up int) api.Deal {
	return deal(r.in(api.DealSlip, api.DealRepay), member, 0, r.in(1, up))
}

// motion returns weights, votes and a need, which is often just reached, or not.
func (r random) motion(many int) (weights, votes []int, need int) {
	up := r.of(1, 3, 10, 1000000)
	all := 0
	for range r.in(1, many) {
		weight := r.in(0, up)
		weights, votes = append(weights, weight), append(votes, r.in(api.VoteOpen, api.VoteNo)*r.in(0, 1))
		all += weight
	}
	if all == 0 || r.Intn(4) == 0 {
		return weights, votes, r.of(0, 1000000, 500000, r.in(0, 1000000))
	}
	need = r.in(0, all)*1000000/all + r.in(-1, 1)
	return weights, votes, min(max(0, need), 1000000)
}

// claims returns up to so many claims among n members; of some members they often come to nothing.
func (r random) claims(n, many, up int) []api.Claim {
	var list []api.Claim
	if n == 1 {
		return nil
	}
	for range r.in(0, many) {
		from := r.Intn(n)
		list = append(list, claim(from, (from+r.in(1, n-1))%n, r.in(1, up)))
	}
	return list
}

// changedText returns a text in which one byte is another one, is missing, or stands twice; or one row; or one word is another one.
func (r random) changedText(text string) string {
	if text == "" {
		return "\n"
	}
	i := r.Intn(len(text))
	switch r.Intn(8) {
	case 0:
		return text[:i] + text[i+1:]
	case 1:
		return text[:i] + text[i:i+1] + text[i:]
	case 2, 3:
		rows := strings.SplitAfter(text, "\n")
		i, j := r.Intn(len(rows)), r.Intn(len(rows))
		rows = slices.Insert(rows, j, rows[i])
		if r.Intn(2) == 0 {
			rows = slices.Delete(rows, i, i+1)
		}
		return strings.Join(rows, "")
	case 4, 5, 6:
		words := strings.Split(text, " ")
		few := []string{"0", "1", "2", "6", "9", "00", "1000000001", "9999999999", "10000000000", "-1", "x", ""}
		if j := r.Intn(len(words)); !strings.Contains(words[j], "\n") {
			words[j] = few[r.Intn(len(few))]
		}
		return strings.Join(words, " ")
	}
	const bytes = "0123456789- \ncopaunteld"
	return text[:i] + bytes[r.Intn(len(bytes)):][:1] + text[i+1:]
}
