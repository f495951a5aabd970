package coop_test

import (
	"math"
	"slices"
	"testing"

	"homarus/api"
	"homarus/coop"
)

// seasons returns a cooperative with such seasons, which has little.
func seasons(list ...int) api.Coop {
	var c api.Coop
	for _, n := range list {
		c.Accounts = append(c.Accounts, api.Account{Season: n})
	}
	return c
}

// P9.3: the chapter's example, seasons of which some are equal, or 0, and the greatest numbers.
func TestShares(t *testing.T) {
	for _, x := range []struct {
		c      api.Coop
		amount int
		want   []int
	}{
		{changedCoop(func(c *api.Coop) { c.Accounts[0].Season, c.Accounts[1].Season = 10001, 5000 }), 100, []int{67, 33}},
		{seasons(10001, 5000), 0, []int{0, 0}},
		{seasons(10001, 5000), 1, []int{1, 0}},
		{seasons(10001, 5000), 2, []int{1, 1}},
		{seasons(10001, 5000), 15001, []int{10001, 5000}},
		{seasons(7), 0, []int{0}},
		{seasons(7), most, []int{most}},
		{seasons(most), most, []int{most}},
		// Of equal rests the first ones get a cent.
		{seasons(1, 1, 1), 1, []int{1, 0, 0}},
		{seasons(1, 1, 1), 2, []int{1, 1, 0}},
		{seasons(1, 1, 1), 4, []int{2, 1, 1}},
		{seasons(0, 1, 1), 1, []int{0, 1, 0}},
		{seasons(1, 0, 1), 3, []int{2, 0, 1}},
		// The rests are those of the division, whatever the shares are.
		{seasons(1, 3), 2, []int{1, 1}},
		{seasons(1, 2, 3), 1, []int{0, 0, 1}},
		{seasons(1, 2, 3), 2, []int{0, 1, 1}},
		{seasons(1, 2, 3), 3, []int{1, 1, 1}},
		{seasons(1, 2, 3), 4, []int{1, 1, 2}},
		{seasons(1, 2, 3), 5, []int{1, 2, 2}},
		{seasons(3, 2, 1), 5, []int{2, 2, 1}},
		{seasons(1, 5, 5, 1), 5, []int{1, 2, 2, 0}},
		{seasons(slices.Repeat([]int{most}, 12)...), most, append(slices.Repeat([]int{83333334}, 4), slices.Repeat([]int{83333333}, 8)...)},
		{seasons(append(make([]int, 11), 1)...), most, append(make([]int, 11), most)},
		{seasons(1, most), most, []int{1, most - 1}},
		{seasons(1, most, most), 2, []int{0, 1, 1}},
	} {
		if list, e := coop.Shares(x.c, x.amount); !slices.Equal(list, x.want) || e != api.OK {
			t.Errorf("%v: Shares(%d) returns %v %d, not %v", x.c.Accounts, x.amount, list, e, x.want)
		}
	}
}

// P9.3: the errors, in their order.
func TestShareErrors(t *testing.T) {
	for _, x := range []struct {
		c      api.Coop
		amount int
		want   api.Errno
	}{
		{seasons(1), most, api.OK},
		{seasons(1), most + 1, api.ErrRange},
		{seasons(1), -1, api.ErrRange},
		{seasons(1), math.MaxInt, api.ErrRange},
		{seasons(1), math.MinInt, api.ErrRange},
		{seasons(0, 0), 0, api.ErrMissing},
		{seasons(0, 0), most, api.ErrMissing},
		{seasons(0, 0), most + 1, api.ErrRange},
		{seasons(0), -1, api.ErrRange},
		{seasons(0, 1), 5, api.OK},
		{exampleCoop(), 5, api.ErrMissing},
		{api.Coop{}, -1, api.ErrShort},
		{api.Coop{Accounts: []api.Account{{Balance: 1}}}, -1, api.ErrClash},
	} {
		if list, e := coop.Shares(x.c, x.amount); e != x.want || e != api.OK && len(list) > 0 {
			t.Errorf("%v: Shares(%d) returns %v %d, not %d", x.c, x.amount, list, e, x.want)
		}
	}
}
