package coop

import (
	"cmp"
	"slices"

	"homarus/api"
)

// Shares returns each member's share of an amount as a bonus.
func Shares(c api.Coop, amount int) ([]int, api.Errno) {
	if e := Check(c); e != api.OK {
		return nil, e
	}
	if !isMoney(amount) {
		return nil, api.ErrRange
	}
	return books{c}.shares(amount)
}

// share is what a member gets, and what is left over of the division that says so.
type share struct{ member, cents, rest int }

// shares returns each member's share of an amount, or that there is nothing by which it can be shared.
func (b books) shares(amount int) ([]int, api.Errno) {
	all := sum(b.each(seasonOf)...)
	if all == 0 {
		return nil, api.ErrMissing
	}
	var list []share
	left := amount
	for member, season := range b.each(seasonOf) {
		s := share{member, amount * season / all, amount * season % all}
		left -= s.cents
		list = append(list, s)
	}
	cents := make([]int, len(list))
	for i, s := range sortedDown(list, func(s share) int { return s.rest }) {
		if i < left {
			s.cents++
		}
		cents[s.member] = s.cents
	}
	return cents, api.OK
}

// sortedDown returns a list with the greatest keys first; items with the same key stay in their order.
func sortedDown[T any, K cmp.Ordered](list []T, key func(T) K) []T {
	slices.SortStableFunc(list, func(a, b T) int { return cmp.Compare(key(b), key(a)) })
	return list
}
