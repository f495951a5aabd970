package coop_test

import (
	"math"
	"slices"
	"testing"

	"homarus/api"
	"homarus/coop"
)

func claim(from, to, amount int) api.Claim {
	return api.Claim{From: from, To: to, Amount: amount}
}

// P9.5: the chapter's example; claims that cancel each other; who pays several ones, and who gets from several ones; and the greatest claims.
func TestSettle(t *testing.T) {
	for _, x := range []struct {
		n      int
		claims []api.Claim
		want   []api.Claim
	}{
		{3, []api.Claim{claim(0, 1, 100), claim(1, 2, 70), claim(2, 0, 20)}, []api.Claim{claim(0, 1, 30), claim(0, 2, 50)}},
		{1, nil, nil},
		{12, nil, nil},
		{2, []api.Claim{claim(1, 0, 1)}, []api.Claim{claim(1, 0, 1)}},
		{2, []api.Claim{claim(1, 0, 5), claim(0, 1, 5)}, nil},
		{2, []api.Claim{claim(1, 0, 5), claim(0, 1, 7)}, []api.Claim{claim(0, 1, 2)}},
		{2, []api.Claim{claim(1, 0, 5), claim(1, 0, 5)}, []api.Claim{claim(1, 0, 10)}},
		{3, []api.Claim{claim(0, 1, 9), claim(1, 2, 9), claim(2, 0, 9)}, nil},
		{3, []api.Claim{claim(0, 1, 9), claim(1, 2, 9)}, []api.Claim{claim(0, 2, 9)}},
		{3, []api.Claim{claim(2, 1, 4), claim(2, 0, 3)}, []api.Claim{claim(2, 0, 3), claim(2, 1, 4)}},
		{3, []api.Claim{claim(1, 2, 4), claim(0, 2, 3)}, []api.Claim{claim(0, 2, 3), claim(1, 2, 4)}},
		// The first one who has to pay goes on until nothing is left.
		{4, []api.Claim{claim(0, 2, 5), claim(1, 3, 5)}, []api.Claim{claim(0, 2, 5), claim(1, 3, 5)}},
		{4, []api.Claim{claim(0, 3, 5), claim(1, 2, 5)}, []api.Claim{claim(0, 2, 5), claim(1, 3, 5)}},
		{4, []api.Claim{claim(0, 3, 5), claim(1, 2, 4)}, []api.Claim{claim(0, 2, 4), claim(0, 3, 1), claim(1, 3, 4)}},
		{4, []api.Claim{claim(0, 3, 3), claim(1, 2, 4)}, []api.Claim{claim(0, 2, 3), claim(1, 2, 1), claim(1, 3, 3)}},
		{5, []api.Claim{claim(4, 0, 1), claim(2, 1, 2), claim(4, 3, 3)}, []api.Claim{claim(2, 0, 1), claim(2, 1, 1), claim(4, 1, 1), claim(4, 3, 3)}},
		{12, slices.Repeat([]api.Claim{claim(11, 0, most)}, 40), []api.Claim{claim(11, 0, 40*most)}},
		{12, append(slices.Repeat([]api.Claim{claim(11, 0, most)}, 20), slices.Repeat([]api.Claim{claim(0, 11, most)}, 20)...), nil},
	} {
		if list, e := coop.Settle(x.n, x.claims); !slices.Equal(list, x.want) || e != api.OK {
			t.Errorf("Settle(%d, %v) returns %v %d, not %v", x.n, x.claims, list, e, x.want)
		}
	}
}

// P9.5: the first error of claims.
func TestSettleErrors(t *testing.T) {
	for _, x := range []struct {
		n      int
		claims []api.Claim
		want   api.Errno
	}{
		{0, nil, api.ErrRange},
		{-1, nil, api.ErrRange},
		{13, nil, api.ErrRange},
		{12, nil, api.OK},
		{math.MaxInt, nil, api.ErrRange},
		{math.MinInt, make([]api.Claim, 41), api.ErrRange},
		{13, []api.Claim{claim(12, 0, 1)}, api.ErrRange},
		{12, slices.Repeat([]api.Claim{claim(11, 0, 1)}, 40), api.OK},
		{12, slices.Repeat([]api.Claim{claim(11, 0, 1)}, 41), api.ErrFull},
		{12, make([]api.Claim, 41), api.ErrFull},
		{12, make([]api.Claim, 100000), api.ErrFull},
		{1, []api.Claim{claim(0, 1, 1)}, api.ErrMissing},
		{2, []api.Claim{claim(0, 1, 1)}, api.OK},
		{2, []api.Claim{claim(0, 2, 1)}, api.ErrMissing},
		{2, []api.Claim{claim(2, 0, 1)}, api.ErrMissing},
		{2, []api.Claim{claim(0, -1, 1)}, api.ErrMissing},
		{2, []api.Claim{claim(-1, 0, 1)}, api.ErrMissing},
		{2, []api.Claim{claim(2, 2, 0)}, api.ErrMissing},
		{2, []api.Claim{claim(-1, -1, 1)}, api.ErrMissing},
		{2, []api.Claim{claim(math.MinInt, math.MaxInt, 1)}, api.ErrMissing},
		{1, []api.Claim{claim(0, 0, 1)}, api.ErrForm},
		{2, []api.Claim{claim(1, 1, 0)}, api.ErrForm},
		{2, []api.Claim{claim(0, 1, 0)}, api.ErrRange},
		{2, []api.Claim{claim(0, 1, -1)}, api.ErrRange},
		{2, []api.Claim{claim(0, 1, most)}, api.OK},
		{2, []api.Claim{claim(0, 1, most+1)}, api.ErrRange},
		{2, []api.Claim{claim(0, 1, math.MaxInt), claim(0, 1, math.MaxInt)}, api.ErrRange},
		{2, []api.Claim{claim(0, 1, math.MinInt)}, api.ErrRange},
		{2, []api.Claim{claim(0, 1, 0), claim(0, 2, 1)}, api.ErrRange},
		{2, []api.Claim{claim(0, 0, 1), claim(0, 1, 0)}, api.ErrForm},
		{2, []api.Claim{claim(0, 1, 1), claim(1, 2, 1)}, api.ErrMissing},
	} {
		if list, e := coop.Settle(x.n, x.claims); e != x.want || e != api.OK && len(list) > 0 {
			t.Errorf("Settle(%d, %v) returns %v %d, not %d", x.n, x.claims, list, e, x.want)
		}
	}
}
