package haul

import (
	"iter"
	"slices"

	"homarus/api"
)

// Bound returns the bound of an open plan.
func Bound(t api.Tour, plan []int) (int, api.Errno) {
	if e := Check(t); e != api.OK {
		return 0, e
	}
	c, _, e := follow(t, plan)
	if e != api.OK {
		return 0, e
	}
	if !isOpen(t, c) {
		return 0, api.ErrClash
	}
	return bound(t, c), api.OK
}

// Prove returns the proof for what the best plan earns.
func Prove(t api.Tour) ([]api.Node, api.Errno) {
	_, earn, e := Best(t)
	if e != api.OK {
		return nil, e
	}
	var proof []api.Node
search:
	for node := range nodes(t, earn) {
		switch len(proof) {
		case api.MaxNodes:
			proof, e = nil, api.ErrFull
			break search
		default:
			proof = append(proof, node)
		}
	}
	return proof, e
}

// Proved says whether a proof shows that no possible plan earns more than this one.
func Proved(t api.Tour, plan []int, proof []api.Node) (bool, api.Errno) {
	_, sum, e := Run(t, plan)
	if e != api.OK {
		return false, e
	}
	if !isList(nodes(t, sum.Earn), proof, sameNode) {
		return false, api.OK
	}
	return !slices.ContainsFunc(proof, func(n api.Node) bool { return earnsMore(t, n.Plan, sum.Earn) }), api.OK
}

// earnsMore says whether a plan of a valid tour is possible, and earns more.
func earnsMore(t api.Tour, plan []int, earn int) bool {
	c, _, e := follow(t, plan)
	if e != api.OK {
		return false
	}
	sum, e := goHome(t, c)
	return e == api.OK && sum.Earn > earn
}

// nodes hands out the nodes of the proof for some earnings.
func nodes(t api.Tour, earn int) iter.Seq[api.Node] {
	return func(yield func(api.Node) bool) {
		for c := range openPlans(t, func(c course) bool { return bound(t, c) > earn }) {
			if !yield(api.Node{Plan: c.plan, Bound: bound(t, c)}) {
				return
			}
		}
	}
}

func sameNode(a, b api.Node) bool { return a.Bound == b.Bound && slices.Equal(a.Plan, b.Plan) }

// isList says whether a list is what is handed out, item by item.
func isList[T any](items iter.Seq[T], list []T, same func(a, b T) bool) bool {
	for item := range items {
		if len(list) == 0 || !same(item, list[0]) {
			return false
		}
		list = list[1:]
	}
	return len(list) == 0
}

// bound returns the bound of an open plan.
func bound(t api.Tour, c course) int {
	sum := c.worth - t.Price*c.fuel
	for stop, s := range t.Stops {
		inTime := c.stay.Done+leastTo(t, placeOf(stop)).Minutes <= s.To
		if !c.visited[stop] && c.traps+s.Traps <= t.Bait && inTime {
			sum += gain(t, stop)
		}
	}
	if len(c.plan) > 0 {
		sum -= t.Price * leastTo(t, harbour).Fuel
	}
	return sum
}

func gain(t api.Tour, stop int) int {
	s := t.Stops[stop]
	return max(s.Worth-t.Price*(s.Fuel+leastTo(t, placeOf(stop)).Fuel), 0)
}

// leastTo returns the least minutes, and the least fuel, of the legs to a place from another one. They may be those of two legs.
func leastTo(t api.Tour, place int) api.Leg {
	least := api.Leg{Minutes: api.MaxMinute, Fuel: api.MaxFuel}
	for from, row := range t.Legs {
		if from != place {
			least.Minutes = min(least.Minutes, row[place].Minutes)
			least.Fuel = min(least.Fuel, row[place].Fuel)
		}
	}
	return least
}
