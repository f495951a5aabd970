package tank_test

import (
	"math"
	"slices"
	"testing"

	"homarus/api"
	"homarus/tank"
)

// exampleLots are the lots of the chapter's examples.
func exampleLots() []api.Lot {
	return []api.Lot{{Strong: 10, Weak: 2}, {Strong: 5, Weak: 1}, {Strong: 5}}
}

func weakLots(numbers ...int) []api.Lot {
	var l []api.Lot
	for _, n := range numbers {
		l = append(l, api.Lot{Weak: n})
	}
	return l
}

func strongLots(numbers ...int) []api.Lot {
	var l []api.Lot
	for _, n := range numbers {
		l = append(l, api.Lot{Strong: n})
	}
	return l
}

// P7.4: the chapter's examples, weak ones first, and those of equal rests in order.
func TestShare(t *testing.T) {
	for _, c := range []struct {
		l      []api.Lot
		deaths int
		want   []int
	}{
		{exampleLots(), 0, []int{0, 0, 0}},
		{exampleLots(), 1, []int{1, 0, 0}},
		{exampleLots(), 2, []int{1, 1, 0}},
		{exampleLots(), 3, []int{2, 1, 0}},
		{exampleLots(), 4, []int{3, 1, 0}},
		{exampleLots(), 5, []int{3, 2, 0}},
		{exampleLots(), 6, []int{3, 2, 1}},
		{exampleLots(), 22, []int{11, 6, 5}},
		{exampleLots(), 23, []int{12, 6, 5}},
		{nil, 0, nil},
		{make([]api.Lot, 3), 0, []int{0, 0, 0}},
		{weakLots(1, 1, 1), 1, []int{1, 0, 0}},
		{weakLots(1, 1, 1), 2, []int{1, 1, 0}},
		{weakLots(0, 1, 1), 1, []int{0, 1, 0}},
		{weakLots(1, 2), 1, []int{0, 1}},
		{weakLots(2, 3), 2, []int{1, 1}},
		{weakLots(3, 2, 2), 3, []int{1, 1, 1}},
		{weakLots(3, 1, 3), 5, []int{2, 1, 2}},
		{strongLots(3, 1, 3), 5, []int{2, 1, 2}},
		{strongLots(1, 5, 1), 3, []int{1, 2, 0}},
		{[]api.Lot{{Strong: 1}, {Weak: 1}}, 1, []int{0, 1}},
		{[]api.Lot{{Strong: 1}, {Weak: 1}}, 2, []int{1, 1}},
		{[]api.Lot{{Strong: 9, Weak: 1}, {Strong: 9, Weak: 1}}, 3, []int{2, 1}},
		{[]api.Lot{{Strong: 9, Weak: 1}, {Strong: 9, Weak: 2}}, 2, []int{1, 1}},
		// Those with equal rests get one more in their order among the weak, and so they do among the strong.
		{[]api.Lot{{Strong: 1, Weak: 1}, {Strong: 1, Weak: 1}, {Strong: 1}}, 3, []int{2, 1, 0}},
		{weakLots(slices.Repeat([]int{10000}, 20)...), 199999, append(slices.Repeat([]int{10000}, 19), 9999)},
		{slices.Repeat([]api.Lot{{Strong: 10000, Weak: 10000}}, 20), 400000, slices.Repeat([]int{20000}, 20)},
		{slices.Repeat([]api.Lot{{Strong: 10000, Weak: 10000}}, 20), 200001, append([]int{10001}, slices.Repeat([]int{10000}, 19)...)},
	} {
		if dead, e := tank.Share(c.l, c.deaths); e != api.OK || !slices.Equal(dead, c.want) {
			t.Errorf("%v: Share(%d) returns %v %d, not %v", c.l, c.deaths, dead, e, c.want)
		}
	}
}

// P7.4: the errors of the lots come before those of the number of dead ones.
func TestShareErrors(t *testing.T) {
	for _, c := range []struct {
		l      []api.Lot
		deaths int
		want   api.Errno
	}{
		{exampleLots(), 23, api.OK},
		{exampleLots(), 24, api.ErrOver},
		{exampleLots(), math.MaxInt, api.ErrOver},
		{exampleLots(), -1, api.ErrRange},
		{exampleLots(), math.MinInt, api.ErrRange},
		{nil, 0, api.OK},
		{nil, 1, api.ErrOver},
		{nil, -1, api.ErrRange},
		{make([]api.Lot, 20), 0, api.OK},
		{make([]api.Lot, 20), 1, api.ErrOver},
		{make([]api.Lot, 21), 0, api.ErrFull},
		{make([]api.Lot, 21), -1, api.ErrFull},
		{strongLots(slices.Repeat([]int{-1}, 21)...), 0, api.ErrFull},
		{strongLots(1, -1), 1, api.ErrRange},
		{strongLots(-1, 1), 5, api.ErrRange},
		{weakLots(1, -1), 1, api.ErrRange},
		{strongLots(10000), 10000, api.OK},
		{strongLots(10001), 1, api.ErrRange},
		{strongLots(1, 10001), 99999, api.ErrRange},
		{weakLots(10000), 10000, api.OK},
		{weakLots(10001), 1, api.ErrRange},
		{weakLots(math.MaxInt, math.MaxInt), 1, api.ErrRange},
	} {
		if dead, e := tank.Share(c.l, c.deaths); e != c.want || e != api.OK && len(dead) != 0 {
			t.Errorf("%v: Share(%d) returns %v %d, not %d", c.l, c.deaths, dead, e, c.want)
		}
	}
}
