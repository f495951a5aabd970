package trade

import "homarus/api"

// Ship returns the orders that are shipped together for the greatest sum, and that sum.
func Ship(m []api.Grade, l []api.Event, orders []api.Order, room int) (chosen []int, cents int, e api.Errno) {
	stalls, e := doAll(m, l)
	if e != api.OK {
		return nil, 0, e
	}
	if e := checkOrders(orders, len(m)); e != api.OK {
		return nil, 0, e
	}
	if !isWare(room) {
		return nil, 0, api.ErrRange
	}
	var stock [api.MaxGrades]int
	for grade, s := range stalls {
		stock[grade] = s.left[animals]
	}
	chosen, cents = bestChoice(stock, orders, room)
	return chosen, cents, api.OK
}

func checkOrders(orders []api.Order, grades int) api.Errno {
	if len(orders) > api.MaxOrders {
		return api.ErrFull
	}
	for _, o := range orders {
		switch {
		case !isIndex(o.Grade, grades):
			return api.ErrMissing
		case !within(o.Count, 1, api.MaxWares) || !within(o.Cents, 0, api.MaxCents):
			return api.ErrRange
		}
	}
	return api.OK
}

// bestChoice tries all choices of orders. The first order has the highest bit: of as many orders those that come first in lexicographic order are tried first.
func bestChoice(stock [api.MaxGrades]int, orders []api.Order, room int) (chosen []int, cents int) {
	high := len(orders) - 1
choices:
	for choice := 1<<len(orders) - 1; choice >= 0; choice-- {
		left, free := stock, room
		var now []int
		sum := 0
		for i, o := range orders {
			if choice>>(high-i)&1 == 0 {
				continue
			}
			left[o.Grade] -= o.Count
			free -= o.Count
			if left[o.Grade] < 0 || free < 0 {
				continue choices
			}
			now = append(now, i)
			sum += o.Cents
		}
		if sum > cents || sum == cents && len(now) < len(chosen) {
			chosen, cents = now, sum
		}
	}
	return chosen, cents
}
