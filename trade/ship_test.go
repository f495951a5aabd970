package trade_test

import (
	"math"
	"slices"
	"testing"

	"homarus/api"
	"homarus/trade"
)

func order(grade, count, cents int) api.Order {
	return api.Order{Grade: grade, Count: count, Cents: cents}
}

// exampleOrders are those of the chapter's examples.
func exampleOrders() []api.Order {
	return []api.Order{order(0, 3, 30), order(0, 3, 25), order(0, 2, 20)}
}

// P8.4: the chapter's examples; what is left, and the room, are enough, or not quite; and of equal sums those with the fewest orders, and of these the first ones.
func TestShip(t *testing.T) {
	// Five of the first grade are left, and four of the second one.
	l := append(exampleLedger(), buy(1, 6, 600), back(1, 2, 100))
	for name, c := range map[string]struct {
		orders []api.Order
		room   int
		chosen []int
		cents  int
	}{
		"the example":             {exampleOrders(), 9, []int{0, 2}, 50},
		"room 5":                  {exampleOrders(), 5, []int{0, 2}, 50},
		"room 4":                  {exampleOrders(), 4, []int{0}, 30},
		"room 3":                  {exampleOrders(), 3, []int{0}, 30},
		"room 2":                  {exampleOrders(), 2, []int{2}, 20},
		"room 1":                  {exampleOrders(), 1, nil, 0},
		"no room":                 {exampleOrders(), 0, nil, 0},
		"no order":                {nil, 5, nil, 0},
		"all that is left":        {[]api.Order{order(0, 5, 1)}, 5, []int{0}, 1},
		"more than is left":       {[]api.Order{order(0, 6, 1)}, 9, nil, 0},
		"none is left":            {[]api.Order{order(2, 1, 1)}, 9, nil, 0},
		"two grades":              {[]api.Order{order(0, 5, 1), order(1, 4, 1)}, 9, []int{0, 1}, 2},
		"two grades, less room":   {[]api.Order{order(0, 5, 1), order(1, 4, 1)}, 8, []int{0}, 1},
		"the dearer one":          {[]api.Order{order(0, 5, 1), order(1, 4, 2)}, 8, []int{1}, 2},
		"each grade for itself":   {[]api.Order{order(0, 4, 5), order(0, 3, 4), order(0, 2, 3), order(1, 3, 5), order(1, 2, 3), order(1, 2, 3)}, 99, []int{1, 2, 4, 5}, 13},
		"nothing is paid":         {[]api.Order{order(0, 1, 0), order(0, 1, 0)}, 9, nil, 0},
		"some for nothing":        {[]api.Order{order(0, 1, 0), order(0, 1, 7), order(0, 1, 0)}, 9, []int{1}, 7},
		"the fewest":              {[]api.Order{order(0, 2, 3), order(0, 3, 3), order(0, 5, 6)}, 9, []int{2}, 6},
		"the fewest, and first":   {[]api.Order{order(0, 1, 2), order(0, 1, 2), order(0, 1, 2), order(1, 2, 4), order(1, 1, 2)}, 3, []int{0, 3}, 6},
		"the first one":           {[]api.Order{order(0, 3, 5), order(0, 3, 5), order(0, 3, 5)}, 9, []int{0}, 5},
		"the first two":           {[]api.Order{order(0, 2, 5), order(0, 2, 5), order(0, 2, 5)}, 9, []int{0, 1}, 10},
		"the first one of a pair": {[]api.Order{order(0, 3, 6), order(0, 4, 7), order(0, 1, 5), order(0, 2, 6)}, 9, []int{0, 3}, 12},
		// 0 3 and 1 2 are worth as much.
		"0 3 before 1 2": {[]api.Order{order(0, 4, 9), order(1, 3, 8), order(0, 2, 7), order(0, 1, 6)}, 5, []int{0, 3}, 15},
		"10 orders":      {slices.Repeat([]api.Order{order(1, 1, 10000000)}, 10), 1000000, []int{0, 1, 2, 3}, 40000000},
		"as many as can": {[]api.Order{order(0, 1000000, 10000000), order(0, 1, 0)}, 1000000, nil, 0},
	} {
		chosen, cents, e := trade.Ship(exampleMarket(), l, c.orders, c.room)
		if !slices.Equal(chosen, c.chosen) || cents != c.cents || e != api.OK {
			t.Errorf("%s: Ship returns %v, %d, %d, not %v, %d", name, chosen, cents, e, c.chosen, c.cents)
		}
	}
	full := slices.Repeat([]api.Event{buy(0, 1000000, 1000000)}, 200)
	all := slices.Repeat([]api.Order{order(0, 100000, 10000000)}, 10)
	if chosen, cents, e := trade.Ship(exampleMarket(), full, all, 1000000); len(chosen) != 10 || cents != 100000000 || e != api.OK {
		t.Errorf("Ship returns %v %d %d", chosen, cents, e)
	}
	if chosen, cents, e := trade.Ship(exampleMarket(), full, all, 999999); !slices.Equal(chosen, []int{0, 1, 2, 3, 4, 5, 6, 7, 8}) || cents != 90000000 || e != api.OK {
		t.Errorf("Ship returns %v %d %d", chosen, cents, e)
	}
}

// P8.4: the errors of the orders, in their order, and then that of the room.
func TestShipErrors(t *testing.T) {
	good, wrong := order(0, 1, 1), order(3, 0, -1)
	for name, c := range map[string]struct {
		orders []api.Order
		room   int
		want   api.Errno
	}{
		"10 orders":               {slices.Repeat([]api.Order{good}, 10), 9, api.OK},
		"11 orders":               {slices.Repeat([]api.Order{good}, 11), 9, api.ErrFull},
		"11 wrong orders":         {slices.Repeat([]api.Order{wrong}, 11), -1, api.ErrFull},
		"grade 2":                 {[]api.Order{order(2, 1, 1)}, 9, api.OK},
		"grade 3":                 {[]api.Order{order(3, 1, 1)}, 9, api.ErrMissing},
		"grade -1":                {[]api.Order{order(-1, 1, 1)}, 9, api.ErrMissing},
		"any grade":               {[]api.Order{order(math.MaxInt, 1, 1)}, 9, api.ErrMissing},
		"grade before count":      {[]api.Order{wrong}, 9, api.ErrMissing},
		"count -1":                {[]api.Order{order(0, -1, 1)}, 9, api.ErrRange},
		"count 0":                 {[]api.Order{order(0, 0, 1)}, 9, api.ErrRange},
		"count 1000000":           {[]api.Order{order(0, 1000000, 1)}, 9, api.OK},
		"count 1000001":           {[]api.Order{order(0, 1000001, 1)}, 9, api.ErrRange},
		"cents -1":                {[]api.Order{order(0, 1, -1)}, 9, api.ErrRange},
		"cents 0":                 {[]api.Order{order(0, 1, 0)}, 9, api.OK},
		"cents 10000000":          {[]api.Order{order(0, 1, 10000000)}, 9, api.OK},
		"cents 10000001":          {[]api.Order{order(0, 1, 10000001)}, 9, api.ErrRange},
		"any cents":               {[]api.Order{order(0, 1, math.MinInt)}, 9, api.ErrRange},
		"missing before range":    {[]api.Order{good, order(3, 1, 1), order(0, 0, 1)}, 9, api.ErrMissing},
		"range before missing":    {[]api.Order{good, order(0, 0, 1), order(3, 1, 1)}, 9, api.ErrRange},
		"missing before the room": {[]api.Order{order(3, 1, 1)}, -1, api.ErrMissing},
		"room -1":                 {[]api.Order{good}, -1, api.ErrRange},
		"room 0":                  {[]api.Order{good}, 0, api.OK},
		"room 1000000":            {[]api.Order{good}, 1000000, api.OK},
		"room 1000001":            {[]api.Order{good}, 1000001, api.ErrRange},
		"any room":                {nil, math.MaxInt, api.ErrRange},
		"nothing at all":          {nil, 0, api.OK},
	} {
		chosen, cents, e := trade.Ship(exampleMarket(), exampleLedger(), c.orders, c.room)
		if e != c.want || e != api.OK && (len(chosen) > 0 || cents != 0) {
			t.Errorf("%s: Ship returns %v %d %d, not %d", name, chosen, cents, e, c.want)
		}
	}
}
