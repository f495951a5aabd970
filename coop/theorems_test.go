package coop_test

import (
	"slices"
	"testing"

	"homarus/api"
	"homarus/coop"
	"homarus/haul"
	"homarus/tank"
)

// tour returns a valid tour of up to three stops; fuel is cheap, or so dear that some plans earn less than nothing.
func (r random) tour() api.Tour {
	t := api.Tour{Start: r.in(0, 30), End: 400, Tank: r.of(30, 100, 300), Price: r.of(0, 1, 3, 20, 1000), Bait: r.in(0, 15), Legs: [][]api.Leg{{{}}}}
	leg := func() api.Leg { return api.Leg{Minutes: r.in(0, 25), Fuel: r.in(0, 1) * r.in(0, 15)} }
	for range r.in(0, 3) {
		t.Stops = append(t.Stops, api.Stop{Traps: r.in(0, 5), Worth: r.in(0, 1) * r.in(0, 1000), Work: r.in(0, 20), Fuel: r.in(0, 6), From: r.in(0, 60), To: r.in(60, 200)})
		var last []api.Leg
		for place := range t.Legs {
			t.Legs[place] = append(t.Legs[place], leg())
			last = append(last, leg())
		}
		t.Legs = append(t.Legs, append(last, api.Leg{}))
	}
	return t
}

// plansFrom returns all plans of so many stops that begin with one.
func plansFrom(plan []int, stops int) [][]int {
	all := [][]int{plan}
	for stop := range stops {
		if !slices.Contains(plan, stop) {
			all = append(all, plansFrom(append(slices.Clone(plan), stop), stops)...)
		}
	}
	return all
}

// paid returns the slips for the stops of a plan, each one for some money, and the fuel that is sold for it.
func paid(t api.Tour, plan []int, units int) (slips, sold []api.Deal) {
	for _, stop := range plan {
		if worth := t.Stops[stop].Worth; worth > 0 {
			slips = append(slips, slip(0, worth))
		}
	}
	if units > 0 {
		sold = append(sold, fuel(0, units))
	}
	return slips, sold
}

// balance returns what is in the account after deals, and how many of them were refused.
func balance(t *testing.T, price, first int, deals []api.Deal) (left, refused int) {
	c := api.Coop{Rates: api.Rates{Price: price}, Accounts: []api.Account{{Balance: first}}, Till: first}
	c, errors, e := coop.Run(c, deals)
	if e != api.OK {
		t.Fatalf("Run(%v) returns %d", deals, e)
	}
	return c.Accounts[0].Balance, len(slices.DeleteFunc(errors, func(e api.Errno) bool { return e == api.OK }))
}

// T3: what a plan earns is what a cooperative without a fee pays for its stops as slips, less the fuel that it sells; no plan leaves more than the best one.
func TestPaid(t *testing.T) {
	const savings = 1000000
	r := newRandom()
	losses, gains := 0, 0
	for range 1500 {
		tour := r.tour()
		best, most, e := haul.Best(tour)
		if e != api.OK {
			t.Fatalf("%v: Best returns %d", tour, e)
		}
		for _, plan := range plansFrom(nil, len(tour.Stops)) {
			_, sum, e := haul.Run(tour, plan)
			if e != api.OK {
				continue
			}
			slips, sold := paid(tour, plan, sum.Fuel)
			// With savings fuel can be bought before, or after.
			for _, deals := range [][]api.Deal{slices.Concat(sold, slips), slices.Concat(slips, sold)} {
				left, refused := balance(t, tour.Price, savings, deals)
				if left-savings != sum.Earn || refused > 0 || left-savings > most || slices.Equal(plan, best) && left-savings != most {
					t.Fatalf("%v: the plan %v earns %d, the best one %d, and %v leaves %d", tour, plan, sum.Earn, most, deals, left-savings)
				}
			}
			left, refused := balance(t, tour.Price, 0, slices.Concat(slips, sold))
			if sum.Earn >= 0 {
				gains++
			} else {
				losses++
			}
			// Without savings a plan that loses money cannot be paid.
			if (refused > 0) != (sum.Earn < 0) || refused == 0 && left != sum.Earn {
				t.Fatalf("%v: the plan %v earns %d, and leaves %d", tour, plan, sum.Earn, left)
			}
		}
	}
	if losses < 500 || gains < 500 {
		t.Errorf("%d plans lost money, %d did not", losses, gains)
	}
}

// T4: the dead ones of a tank, as claims of the dealer against the owners, are settled so that each owner pays for the own ones, and all together for all.
func TestDeathsShared(t *testing.T) {
	r := newRandom()
	for range 3000 {
		members := r.in(2, 12)
		dealer := r.Intn(members)
		most := r.of(1, 3, 10, 10000)
		var lots []api.Lot
		var owners []int
		animals := 0
		for range r.in(0, 20) {
			lot := api.Lot{Strong: r.in(0, most), Weak: r.in(0, most)}
			animals += lot.Strong + lot.Weak
			lots, owners = append(lots, lot), append(owners, (dealer+r.in(1, members-1))%members)
		}
		deaths, price := r.in(0, animals), r.in(1, 5000)
		dead, e := tank.Share(lots, deaths)
		if e != api.OK {
			t.Fatalf("%v: Share(%d) returns %d", lots, deaths, e)
		}
		var claims, want []api.Claim
		own := make([]int, members)
		for i, n := range dead {
			own[owners[i]] += n
			if n > 0 {
				claims = append(claims, claim(owners[i], dealer, n*price))
			}
		}
		for owner, n := range own {
			if n > 0 {
				want = append(want, claim(owner, dealer, n*price))
			}
		}
		if payments, e := coop.Settle(members, claims); !slices.Equal(payments, want) || total(payments) != deaths*price || e != api.OK {
			t.Fatalf("%v: %d dead ones are settled by %v %d, not %v", lots, deaths, payments, e, want)
		}
	}
}
