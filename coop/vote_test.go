package coop_test

import (
	"math"
	"slices"
	"testing"

	"homarus/api"
	"homarus/coop"
)

// votes returns votes that are written as ?, y and n.
func votes(text string) []int {
	var list []int
	for _, c := range text {
		list = append(list, map[rune]int{'?': api.VoteOpen, 'y': api.VoteYes, 'n': api.VoteNo}[c])
	}
	return list
}

// decision is a motion, what it comes to, and who may decide it.
type decision struct {
	weights []int
	votes   string
	need    int
	verdict int
	swings  []int
}

// decisions are the chapter's examples, and motions for which there are just enough voices, or not; with weights of 0; and where nobody's vote, or everybody's, is open.
func decisions() []decision {
	const half, all = 500000, 1000000
	return []decision{
		{[]int{3, 2, 2}, "y??", half, api.Open, []int{1, 2}},
		{[]int{3, 2, 2}, "yy?", half, api.Sure, nil},
		{[]int{3, 2, 2}, "?n?", half, api.Open, []int{0, 2}},
		{[]int{3, 2, 2}, "nn?", half, api.Never, nil},
		{[]int{3, 2, 2}, "???", half, api.Open, []int{0, 1, 2}},
		{[]int{3, 2, 2}, "yyy", half, api.Sure, nil},
		{[]int{3, 2, 2}, "nnn", half, api.Never, nil},
		{[]int{3, 2, 2}, "ynn", half, api.Never, nil},
		{[]int{3, 2, 2}, "nyy", half, api.Sure, nil},
		// Just half is not more than half.
		{[]int{1, 1}, "y?", half, api.Open, []int{1}},
		{[]int{1, 1}, "yn", half, api.Never, nil},
		{[]int{1, 1}, "yn", half - 1, api.Sure, nil},
		{[]int{1, 1}, "y?", half - 1, api.Sure, nil},
		{[]int{1, 1}, "??", half - 1, api.Open, []int{0, 1}},
		{[]int{1, 2}, "ny", 666666, api.Sure, nil},
		{[]int{1, 2}, "ny", 666667, api.Never, nil},
		{[]int{1, 2}, "?y", 666667, api.Open, []int{0}},
		{[]int{1, 2}, "??", 666667, api.Open, []int{0, 1}},
		{[]int{1, 2}, "??", 666666, api.Open, []int{1}},
		{[]int{1, 2}, "??", 333332, api.Open, []int{0, 1}},
		{[]int{1, 2}, "?n", 333333, api.Open, []int{0}},
		{[]int{1, 2}, "?n", 333334, api.Never, nil},
		// Without a need one voice is enough; all of them are never more than all.
		{[]int{1, 2}, "??", 0, api.Open, []int{0, 1}},
		{[]int{1, 2}, "y?", 0, api.Sure, nil},
		{[]int{1, 2}, "nn", 0, api.Never, nil},
		{[]int{1, 2}, "yy", all, api.Never, nil},
		{[]int{1, 2}, "??", all, api.Never, nil},
		{[]int{1, 2}, "??", all - 1, api.Open, []int{0, 1}},
		{[]int{1, 2}, "yy", all - 1, api.Sure, nil},
		// Who has no weight decides nothing.
		{[]int{0, 1}, "??", half, api.Open, []int{1}},
		{[]int{0, 1}, "?y", half, api.Sure, nil},
		{[]int{0, 1}, "yn", 0, api.Never, nil},
		{[]int{0, 0}, "??", 0, api.Never, nil},
		{[]int{0}, "y", 0, api.Never, nil},
		{[]int{5}, "?", half, api.Open, []int{0}},
		{[]int{5}, "?", all, api.Never, nil},
		// A dummy: without the two others 1 is too little, with one of them it is not needed.
		{[]int{2, 2, 1}, "???", 500000, api.Open, []int{0, 1, 2}},
		{[]int{4, 4, 1}, "???", 600000, api.Open, []int{0, 1}},
		{[]int{4, 2, 2, 1}, "??n?", 333332, api.Open, []int{0, 1, 3}},
		{[]int{4, 2, 2, 1}, "??n?", 444444, api.Open, []int{0}},
		{slices.Repeat([]int{1000000}, 12), "????????????", half, api.Open, []int{0, 1, 2, 3, 4, 5, 6, 7, 8, 9, 10, 11}},
		{slices.Repeat([]int{1000000}, 12), "yyyyyyyn????", half, api.Sure, nil},
		{slices.Repeat([]int{1000000}, 12), "yyyyyynnnnn?", half, api.Open, []int{11}},
		{slices.Repeat([]int{1000000}, 12), "yyyyyynnnnnn", half, api.Never, nil},
	}
}

// P9.4: Decide and Swing.
func TestVotes(t *testing.T) {
	for _, x := range decisions() {
		if verdict, e := coop.Decide(x.weights, votes(x.votes), x.need); verdict != x.verdict || e != api.OK {
			t.Errorf("%v: Decide(%s, %d) returns %d %d, not %d", x.weights, x.votes, x.need, verdict, e, x.verdict)
		}
		if swings, e := coop.Swing(x.weights, votes(x.votes), x.need); !slices.Equal(swings, x.swings) || e != api.OK {
			t.Errorf("%v: Swing(%s, %d) returns %v %d, not %v", x.weights, x.votes, x.need, swings, e, x.swings)
		}
	}
}

// P9.4: the first error of a motion.
func TestVoteErrors(t *testing.T) {
	const mil = 1000000
	for _, x := range []struct {
		weights, votes []int
		need           int
		want           api.Errno
	}{
		{nil, nil, 0, api.ErrShort},
		{[]int{}, []int{9}, -1, api.ErrShort},
		{make([]int, 12), make([]int, 12), 0, api.OK},
		{make([]int, 13), make([]int, 13), 0, api.ErrFull},
		{slices.Repeat([]int{-1}, 13), nil, -1, api.ErrFull},
		{make([]int, 100000), make([]int, 100000), 0, api.ErrFull},
		{[]int{-1}, []int{0}, 0, api.ErrRange},
		{[]int{1, -1}, []int{0, 0}, 0, api.ErrRange},
		{[]int{mil}, []int{0}, 0, api.OK},
		{[]int{mil + 1}, []int{0}, 0, api.ErrRange},
		{[]int{1, mil + 1}, nil, 0, api.ErrRange},
		{[]int{math.MaxInt, math.MinInt}, []int{0, 0}, 0, api.ErrRange},
		{[]int{-1}, []int{3}, -1, api.ErrRange},
		{[]int{1, 1}, []int{0}, 0, api.ErrForm},
		{[]int{1, 1}, nil, 0, api.ErrForm},
		{[]int{1, 1}, []int{0, 0, 0}, 0, api.ErrForm},
		{[]int{1}, []int{3, 0}, -1, api.ErrForm},
		{[]int{1, 1}, []int{0, 3}, 0, api.ErrKind},
		{[]int{1, 1}, []int{-1, 0}, 0, api.ErrKind},
		{[]int{1, 1}, []int{0, 2}, 0, api.OK},
		{[]int{1, 1}, []int{math.MaxInt, 0}, mil + 1, api.ErrKind},
		{[]int{1}, []int{0}, -1, api.ErrRange},
		{[]int{1}, []int{0}, mil, api.OK},
		{[]int{1}, []int{0}, mil + 1, api.ErrRange},
		{[]int{1}, []int{0}, math.MinInt, api.ErrRange},
	} {
		if verdict, e := coop.Decide(x.weights, x.votes, x.need); e != x.want || e != api.OK && verdict != 0 {
			t.Errorf("Decide(%v, %v, %d) returns %d %d, not %d", x.weights, x.votes, x.need, verdict, e, x.want)
		}
		if swings, e := coop.Swing(x.weights, x.votes, x.need); e != x.want || e != api.OK && len(swings) > 0 {
			t.Errorf("Swing(%v, %v, %d) returns %v %d, not %d", x.weights, x.votes, x.need, swings, e, x.want)
		}
	}
}
