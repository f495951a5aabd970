package tank

import (
	"cmp"
	"slices"

	"homarus/api"
)

// Share returns how many dead ones each lot has: weak animals die first.
func Share(l []api.Lot, deaths int) ([]int, api.Errno) {
	if e := checkLots(l); e != api.OK {
		return nil, e
	}
	if deaths < 0 {
		return nil, api.ErrRange
	}
	var weak, strong []int
	for _, lot := range l {
		weak, strong = append(weak, lot.Weak), append(strong, lot.Strong)
	}
	if deaths > sum(weak)+sum(strong) {
		return nil, api.ErrOver
	}
	weakOnes := min(deaths, sum(weak))
	dead := share(weakOnes, weak)
	for i, n := range share(deaths-weakOnes, strong) {
		dead[i] += n
	}
	return dead, api.OK
}

func checkLots(l []api.Lot) api.Errno {
	if len(l) > api.MaxLots {
		return api.ErrFull
	}
	for _, lot := range l {
		if !within(lot.Strong, 0, api.MaxHeads) || !within(lot.Weak, 0, api.MaxHeads) {
			return api.ErrRange
		}
	}
	return api.OK
}

// share shares d among the numbers of a list, whose sum is not less than d.
func share(d int, list []int) []int {
	parts := make([]int, len(list))
	all := sum(list)
	if all == 0 {
		return parts
	}
	order := make([]int, len(list))
	for i, n := range list {
		parts[i] = d * n / all
		order[i] = i
	}
	greatestFirst(order, func(i int) int { return d * list[i] % all })
	for _, i := range order[:d-sum(parts)] {
		parts[i]++
	}
	return parts
}

// greatestFirst sorts a list by a key; items with equal keys stay in their order.
func greatestFirst[T any, K cmp.Ordered](list []T, key func(T) K) {
	slices.SortStableFunc(list, func(a, b T) int { return cmp.Compare(key(b), key(a)) })
}

func sum(list []int) int {
	s := 0
	for _, n := range list {
		s += n
	}
	return s
}
