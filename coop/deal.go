package coop

import "homarus/api"

// Do returns the cooperative after a deal.
func Do(c api.Coop, d api.Deal) (api.Coop, api.Errno) {
	if e := Check(c); e != api.OK {
		return api.Coop{}, e
	}
	return after(c, d)
}

// Run returns the cooperative after all deals, and the error of each deal.
func Run(c api.Coop, deals []api.Deal) (api.Coop, []api.Errno, api.Errno) {
	if e := Check(c); e != api.OK {
		return api.Coop{}, nil, e
	}
	if len(deals) > api.MaxDeals {
		return api.Coop{}, nil, api.ErrFull
	}
	// Even if nothing is done, the result has accounts of its own.
	now := open(c).Coop
	var errors []api.Errno
	for _, d := range deals {
		next, e := after(now, d)
		if e == api.OK {
			now = next
		}
		errors = append(errors, e)
	}
	return now, errors, api.OK
}

// checkDeal returns the first error of a deal among so many members.
func checkDeal(d api.Deal, members int) api.Errno {
	if !within(d.Kind, api.DealSlip, api.DealBuy) {
		return api.ErrKind
	}
	if e := checkParties(d, members); e != api.OK {
		return e
	}
	if !within(d.Amount, 1, api.MaxMoney) {
		return api.ErrRange
	}
	return api.OK
}

// checkParties returns the first error of those whose deal it is.
func checkParties(d api.Deal, members int) api.Errno {
	if d.Kind == api.DealBonus || d.Kind == api.DealBuy {
		if d.Member != 0 {
			return api.ErrForm
		}
	} else if !isIndex(d.Member, members) {
		return api.ErrMissing
	}
	if d.Kind != api.DealFine {
		if d.Other != 0 {
			return api.ErrForm
		}
		return api.OK
	}
	switch {
	case !isIndex(d.Other, members):
		return api.ErrMissing
	case d.Other == d.Member:
		return api.ErrForm
	}
	return api.OK
}

// after returns a valid cooperative after a deal, or the error of the deal.
func after(c api.Coop, d api.Deal) (api.Coop, api.Errno) {
	if e := checkDeal(d, len(c.Accounts)); e != api.OK {
		return api.Coop{}, e
	}
	b := open(c)
	if e := b.deeds()[d.Kind](d); e != api.OK {
		return api.Coop{}, e
	}
	if b.isFull() {
		return api.Coop{}, api.ErrFull
	}
	return b.Coop, api.OK
}

// deeds returns what is done for deals of each kind. A deed may be refused when something is done already: the books are of no use then.
func (b *books) deeds() map[int]func(api.Deal) api.Errno {
	return map[int]func(api.Deal) api.Errno{
		api.DealSlip:  b.slip,
		api.DealFuel:  b.fuel,
		api.DealLoan:  b.loan,
		api.DealRepay: b.repay,
		api.DealDraw:  b.draw,
		api.DealFine:  b.fine,
		api.DealBonus: b.bonus,
		api.DealBuy:   b.buy,
	}
}

func (b *books) slip(d api.Deal) api.Errno {
	a := &b.Accounts[d.Member]
	a.Balance += d.Amount - partUp(d.Amount, b.Rates.Fee)
	a.Season += d.Amount
	b.Till += d.Amount
	return api.OK
}

func (b *books) fuel(d api.Deal) api.Errno { return b.take(d.Member, d.Amount*b.Rates.Price) }

func (b *books) loan(d api.Deal) api.Errno {
	a := &b.Accounts[d.Member]
	a.Debt += d.Amount + partUp(d.Amount, b.Rates.Interest)
	if a.Debt > b.Rates.Credit {
		return api.ErrOver
	}
	a.Balance += d.Amount
	return api.OK
}

func (b *books) repay(d api.Deal) api.Errno {
	a := &b.Accounts[d.Member]
	if d.Amount > a.Debt {
		return api.ErrOver
	}
	a.Debt -= d.Amount
	return b.take(d.Member, d.Amount)
}

func (b *books) draw(d api.Deal) api.Errno {
	if d.Amount > b.Till {
		return api.ErrShort
	}
	b.Till -= d.Amount
	return b.take(d.Member, d.Amount)
}

func (b *books) fine(d api.Deal) api.Errno {
	b.Accounts[d.Other].Balance += d.Amount
	return b.take(d.Member, d.Amount)
}

func (b *books) bonus(d api.Deal) api.Errno {
	if d.Amount > b.surplus() {
		return api.ErrOver
	}
	shares, e := b.shares(d.Amount)
	if e != api.OK {
		return e
	}
	for i, share := range shares {
		b.Accounts[i].Balance += share
		b.Accounts[i].Season = 0
	}
	return api.OK
}

func (b *books) buy(d api.Deal) api.Errno {
	switch {
	case d.Amount > b.Till:
		return api.ErrShort
	case d.Amount > b.surplus():
		return api.ErrOver
	}
	b.Till -= d.Amount
	return api.OK
}

// take takes money from the balance of a member, if there is enough.
func (b *books) take(member, money int) api.Errno {
	a := &b.Accounts[member]
	if money > a.Balance {
		return api.ErrShort
	}
	a.Balance -= money
	return api.OK
}

// partUp returns a part of some money, rounded up.
func partUp(money, part int) int { return (money*part + api.Mil - 1) / api.Mil }
