package haul_test

import (
	"slices"
	"testing"

	"homarus/api"
	"homarus/haul"
)

// P3.2: which plan is the best one, of plans that earn the same too.
func TestBest(t *testing.T) {
	for name, c := range map[string]struct {
		t    api.Tour
		plan []int
		earn int
	}{
		"no stop":          {emptyTour(), nil, 0},
		"all stops":        {easyTour(8), []int{0, 1, 2, 3, 4, 5, 6, 7}, 800 - 8 - 9},
		"fuel is too dear": {changedEasy(3, func(t *api.Tour) { t.Price = 100 }), nil, 0},
		"nothing is left":  {changedEasy(1, func(t *api.Tour) { t.Stops[0].Worth = 3 }), nil, 0},
		"a cent is left":   {changedEasy(1, func(t *api.Tour) { t.Stops[0].Worth = 4 }), []int{0}, 1},
		"it is worth nothing, and costs nothing": {changedEasy(2, func(t *api.Tour) {
			t.Price, t.Stops[0].Worth, t.Stops[1].Worth = 0, 0, 0
		}), nil, 0},
		"the first one of two": {changedEasy(2, func(t *api.Tour) { t.Bait = 1 }), []int{0}, 97},
		"the second one":       {changedEasy(2, func(t *api.Tour) { t.Bait, t.Stops[1].Worth = 1, 101 }), []int{1}, 98},
		"two of four":          {changedEasy(4, func(t *api.Tour) { t.Bait = 2 }), []int{0, 1}, 195},
		"in another order": {changedEasy(3, func(t *api.Tour) {
			t.Stops[0].From, t.Stops[1].To = 200, 100
		}), []int{1, 0, 2}, 293},
		"it only goes backwards": {changedEasy(3, func(t *api.Tour) {
			t.Stops[2].To, t.Stops[1].To, t.Stops[0].To = 10, 30, 50
		}), []int{2, 1, 0}, 293},
		"one stop rather than two": {changedEasy(3, func(t *api.Tour) {
			t.Bait, t.Price, t.Stops[0].Worth, t.Stops[1].Worth, t.Stops[2].Worth, t.Stops[2].Traps = 2, 0, 50, 50, 100, 2
		}), []int{2}, 100},
		"two stops rather than three": {changedEasy(5, func(t *api.Tour) {
			t.Bait, t.Price = 6, 0
			for stop, worth := range []int{40, 40, 40, 60, 60} {
				t.Stops[stop].Worth, t.Stops[stop].Traps = worth, 2+stop/3
			}
		}), []int{3, 4}, 120},
		"two stops rather than one": {changedEasy(3, func(t *api.Tour) {
			t.Bait, t.Price, t.Stops[0].Worth, t.Stops[1].Worth, t.Stops[2].Worth, t.Stops[2].Traps = 2, 0, 50, 51, 100, 2
		}), []int{0, 1}, 101},
		"a stop worth nothing is left out": {changedEasy(3, func(t *api.Tour) {
			t.Price, t.Stops[1].Worth = 0, 0
		}), []int{0, 2}, 200},
		"a stop on the way home": {changedEasy(2, func(t *api.Tour) {
			t.Stops[1].Worth, t.Legs[1][0].Fuel = 0, 50
		}), []int{0, 1}, 95},
		"a stop on the way there": {changedEasy(2, func(t *api.Tour) {
			t.Stops[0].Worth, t.Legs[0][2].Minutes, t.Stops[1].To = 0, 100, 30
		}), []int{0, 1}, 95},
		"only a longer plan is back in time": {changedEasy(2, func(t *api.Tour) {
			t.End, t.Legs[1][0].Minutes, t.Legs[2][0].Minutes, t.Stops[0].Worth = 50, 100, 10, 0
			t.Legs[0][2].Minutes = 50
		}), []int{0, 1}, 95},
		"only a longer plan has fuel for the way back": {changedEasy(2, func(t *api.Tour) {
			t.Tank, t.Legs[1][0].Fuel, t.Legs[0][2].Fuel = 5, 100, 100
		}), []int{0, 1}, 195},
		"there is no way back": {changedEasy(2, func(t *api.Tour) { t.Tank, t.Legs[1][0].Fuel, t.Legs[2][0].Fuel = 50, 100, 100 }), nil, 0},
		"back at End":          {changedEasy(2, func(t *api.Tour) { t.End = 50 }), []int{0, 1}, 195},
		"a minute less":        {changedEasy(2, func(t *api.Tour) { t.End = 49 }), []int{0}, 97},
		"as much fuel":         {changedEasy(2, func(t *api.Tour) { t.Tank = 5 }), []int{0, 1}, 195},
		"less fuel":            {changedEasy(2, func(t *api.Tour) { t.Tank = 4 }), []int{0}, 97},
		"the greatest worth": {changedEasy(8, func(t *api.Tour) {
			for stop := range t.Stops {
				t.Stops[stop].Worth = 1000000
			}
		}), []int{0, 1, 2, 3, 4, 5, 6, 7}, 8000000 - 17},
	} {
		if plan, earn, e := haul.Best(c.t); !slices.Equal(plan, c.plan) || earn != c.earn || e != api.OK {
			t.Errorf("%s: Best returns %v %d %d, not %v %d", name, plan, earn, e, c.plan, c.earn)
		}
	}
}
