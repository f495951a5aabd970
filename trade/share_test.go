package trade_test

import (
	"math"
	"slices"
	"testing"

	"homarus/api"
	"homarus/trade"
)

// P8.5: the chapter's examples, boats without traps, equal boats, and as much as there may be.
func TestShare(t *testing.T) {
	for _, c := range []struct {
		quota int
		traps []int
		want  []int
	}{
		{0, nil, nil},
		{0, []int{0, 0}, []int{0, 0}},
		{0, []int{5, 1}, []int{0, 0}},
		{7, []int{10, 5, 0, 5}, []int{4, 2, 0, 1}},
		{6, []int{10, 5, 0, 5}, []int{4, 1, 0, 1}},
		{8, []int{10, 5, 0, 5}, []int{4, 2, 0, 2}},
		{3, []int{1, 1}, []int{2, 1}},
		{1, []int{1, 1}, []int{1, 0}},
		{2, []int{1, 1, 1}, []int{1, 1, 0}},
		{1, []int{1, 2, 2}, []int{0, 1, 0}},
		{1, []int{0, 0, 1}, []int{0, 0, 1}},
		{9, []int{0, 0, 1}, []int{0, 0, 9}},
		// 6 / 2 is as much as 3 / 1: the first one gets the box, then the other one.
		{2, []int{6, 3}, []int{2, 0}},
		{3, []int{6, 3}, []int{2, 1}},
		{2, []int{3, 6}, []int{1, 1}},
		{2, []int{40, 19, 1}, []int{2, 0, 0}},
		{3, []int{40, 19, 1}, []int{2, 1, 0}},
		{4, []int{40, 19, 1}, []int{3, 1, 0}},
		{5000, []int{40}, []int{5000}},
		{5000, []int{40, 1}, []int{4879, 121}},
		{60, []int{40, 0, 20}, []int{40, 0, 20}},
		{5000, slices.Repeat([]int{40}, 12), append(slices.Repeat([]int{417}, 8), 416, 416, 416, 416)},
	} {
		if boxes, e := trade.Share(c.quota, c.traps); !slices.Equal(boxes, c.want) || e != api.OK {
			t.Errorf("Share(%d, %v) returns %v %d, not %v", c.quota, c.traps, boxes, e, c.want)
		}
	}
}

// P8.5: the errors, in their order.
func TestShareErrors(t *testing.T) {
	for _, c := range []struct {
		quota int
		traps []int
		want  api.Errno
	}{
		{5000, []int{1}, api.OK},
		{5001, []int{1}, api.ErrRange},
		{-1, []int{1}, api.ErrRange},
		{math.MaxInt, []int{1}, api.ErrRange},
		{math.MinInt, nil, api.ErrRange},
		{5001, make([]int, 13), api.ErrRange},
		{0, make([]int, 12), api.OK},
		{0, make([]int, 13), api.ErrFull},
		{1, make([]int, 13), api.ErrFull},
		{0, slices.Repeat([]int{-1}, 13), api.ErrFull},
		{0, []int{-1}, api.ErrRange},
		{1, []int{40}, api.OK},
		{1, []int{41}, api.ErrRange},
		{1, []int{1, -1}, api.ErrRange},
		{1, []int{1, -1, 2}, api.ErrRange},
		{1, []int{math.MaxInt, math.MaxInt}, api.ErrRange},
		{1, []int{0, 0, -1}, api.ErrRange},
		{1, nil, api.ErrMissing},
		{1, []int{0}, api.ErrMissing},
		{5000, make([]int, 12), api.ErrMissing},
		{0, nil, api.OK},
	} {
		if boxes, e := trade.Share(c.quota, c.traps); e != c.want || e != api.OK && len(boxes) > 0 {
			t.Errorf("Share(%d, %v) returns %v %d, not %d", c.quota, c.traps, boxes, e, c.want)
		}
	}
}
