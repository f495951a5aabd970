package coop

import (
	"slices"

	"homarus/api"
)

// Settle returns payments that are made instead of all claims.
func Settle(n int, claims []api.Claim) ([]api.Claim, api.Errno) {
	if e := checkClaims(n, claims); e != api.OK {
		return nil, e
	}
	net := netOf(n, claims)
	var payments []api.Claim
	for {
		from := slices.IndexFunc(net, func(money int) bool { return money < 0 })
		if from < 0 {
			return payments, api.OK
		}
		// All nets are together 0: there is one above 0, too.
		to := slices.IndexFunc(net, func(money int) bool { return money > 0 })
		amount := min(-net[from], net[to])
		net[from] += amount
		net[to] -= amount
		payments = append(payments, api.Claim{From: from, To: to, Amount: amount})
	}
}

// checkClaims returns the first error of claims among so many members.
func checkClaims(members int, claims []api.Claim) api.Errno {
	switch {
	case !within(members, 1, api.MaxAccounts):
		return api.ErrRange
	case len(claims) > api.MaxClaims:
		return api.ErrFull
	}
	for _, c := range claims {
		switch {
		case !isIndex(c.From, members) || !isIndex(c.To, members):
			return api.ErrMissing
		case c.From == c.To:
			return api.ErrForm
		case !within(c.Amount, 1, api.MaxMoney):
			return api.ErrRange
		}
	}
	return api.OK
}

// netOf returns for each member what it gets by claims, less what it pays.
func netOf(members int, claims []api.Claim) []int {
	net := make([]int, members)
	for _, c := range claims {
		net[c.From] -= c.Amount
		net[c.To] += c.Amount
	}
	return net
}
