package haul_test

import (
	"slices"
	"testing"

	"homarus/api"
	"homarus/haul"
)

// P3.3: what a bound counts, at both ends of what is possible, and which plans have none.
func TestBound(t *testing.T) {
	for name, c := range map[string]struct {
		plan   []int
		change func(t *api.Tour)
		want   int
		e      api.Errno
	}{
		"none":                         {nil, func(t *api.Tour) {}, 10625, api.OK},
		"1":                            {[]int{1}, func(t *api.Tour) {}, 10500, api.OK},
		"0 2":                          {[]int{0, 2}, func(t *api.Tour) {}, 4675, api.OK},
		"there is bait":                {[]int{2}, func(t *api.Tour) { t.Stops[1].Traps = 20 }, 10575, api.OK},
		"there is no bait":             {[]int{2}, func(t *api.Tour) { t.Stops[1].Traps = 21 }, 4750, api.OK},
		"no bait from the beginning":   {nil, func(t *api.Tour) { t.Bait = 19 }, 4800, api.OK},
		"bait from the beginning":      {nil, func(t *api.Tour) { t.Bait = 20 }, 10625, api.OK},
		"bait for each, not for both":  {nil, func(t *api.Tour) { t.Bait = 20; t.Stops[0].Traps, t.Stops[2].Traps = 20, 20 }, 10625, api.OK},
		"in time":                      {[]int{0}, func(t *api.Tour) { t.Stops[1].To = 415 }, 10550, api.OK},
		"not in time":                  {[]int{0}, func(t *api.Tour) { t.Stops[1].To = 414 }, 4725, api.OK},
		"in time from Start":           {nil, func(t *api.Tour) { t.Start = 395 }, 10625, api.OK},
		"not in time from Start":       {nil, func(t *api.Tour) { t.Start = 396 }, 4800, api.OK},
		"behind End, but in time":      {[]int{0}, func(t *api.Tour) { t.End = 390 }, 10550, api.OK},
		"the quickest leg of others":   {[]int{0}, func(t *api.Tour) { t.Stops[1].To, t.Legs[3][2].Minutes = 400, 10 }, 10550, api.OK},
		"the quickest from Start":      {nil, func(t *api.Tour) { t.Start, t.Legs[3][2].Minutes = 410, 10 }, 10625, api.OK},
		"one that is quicker there":    {nil, func(t *api.Tour) { t.Start, t.Legs[2][3].Minutes = 396, 0 }, 4800, api.OK},
		"the cheapest leg of others":   {nil, func(t *api.Tour) { t.Legs[3][2].Fuel = 5 }, 10675, api.OK},
		"one that is cheaper there":    {nil, func(t *api.Tour) { t.Legs[2][3].Fuel = 5 }, 10650, api.OK},
		"a free leg":                   {nil, func(t *api.Tour) { t.Legs[0][1].Fuel = 0 }, 10700, api.OK},
		"a gain of 0":                  {nil, func(t *api.Tour) { t.Stops[2].Worth = 75 }, 9700, api.OK},
		"a gain below 0":               {nil, func(t *api.Tour) { t.Stops[2].Worth = 74 }, 9700, api.OK},
		"a gain of 1":                  {nil, func(t *api.Tour) { t.Stops[2].Worth = 76 }, 9701, api.OK},
		"the stop of a plan is a loss": {[]int{2}, func(t *api.Tour) { t.Stops[2].Worth = 0 }, 9575, api.OK},
		"the cheapest way home":        {[]int{0}, func(t *api.Tour) { t.Legs[2][0].Fuel = 4 }, 10580, api.OK},
		"a free way home":              {[]int{0}, func(t *api.Tour) { t.Legs[1][0].Fuel = 0 }, 10600, api.OK},
		"a free way out":               {[]int{0}, func(t *api.Tour) { t.Legs[0][3].Fuel = 0 }, 10600, api.OK},
		"none, and a free way home":    {nil, func(t *api.Tour) { t.Legs[1][0].Fuel = 0 }, 10625, api.OK},
		"free fuel":                    {[]int{1}, func(t *api.Tour) { t.Price = 0 }, 11000, api.OK},
		"a plan that earns less":       {[]int{2}, func(t *api.Tour) { t.Price, t.Bait = 1000, 10 }, 1000 - 15000 - 10000, api.OK},
		"nothing can be hauled":        {nil, func(t *api.Tour) { t.Bait = 0 }, 0, api.OK},
		"done at End":                  {[]int{0}, func(t *api.Tour) { t.End = 390 }, 10550, api.OK},
		"done behind End":              {[]int{0}, func(t *api.Tour) { t.End = 389 }, 0, api.ErrClash},
		"as much fuel":                 {[]int{0}, func(t *api.Tour) { t.Tank = 30 }, 10550, api.OK},
		"less fuel":                    {[]int{0}, func(t *api.Tour) { t.Tank = 29 }, 0, api.ErrClash},
		"as much fuel for two":         {[]int{0, 1}, func(t *api.Tour) { t.Tank = 65 }, 9625, api.OK},
		"less fuel for two":            {[]int{0, 1}, func(t *api.Tour) { t.Tank = 64 }, 0, api.ErrClash},
		"none, with nothing":           {nil, func(t *api.Tour) { t.End, t.Tank = 300, 0 }, 10625, api.OK},
		"no such stop":                 {[]int{3}, func(t *api.Tour) {}, 0, api.ErrMissing},
		"stop -1":                      {[]int{-1}, func(t *api.Tour) {}, 0, api.ErrMissing},
		"twice":                        {[]int{0, 0}, func(t *api.Tour) {}, 0, api.ErrExists},
		"full":                         {[]int{0, 1, 2}, func(t *api.Tour) {}, 0, api.ErrFull},
		"late":                         {[]int{2, 0, 1}, func(t *api.Tour) { t.Bait = 40 }, 0, api.ErrLate},
		"late, and behind End":         {[]int{2, 0, 1}, func(t *api.Tour) { t.Bait, t.End = 40, 301 }, 0, api.ErrLate},
		"no such stop, behind End":     {[]int{0, 3}, func(t *api.Tour) { t.End, t.Tank = 301, 0 }, 0, api.ErrMissing},
	} {
		if bound, e := haul.Bound(changedTour(c.change), c.plan); bound != c.want || e != c.e {
			t.Errorf("%s: Bound returns %d %d, not %d %d", name, bound, e, c.want, c.e)
		}
	}
	if bound, e := haul.Bound(emptyTour(), nil); bound != 0 || e != api.OK {
		t.Error("without a stop Bound returns", bound, e)
	}
}

// P3.3: the nodes of a proof, in their order: a node is followed by others only if its bound is greater than the earnings.
func TestProve(t *testing.T) {
	for name, c := range map[string]struct {
		t    api.Tour
		want []api.Node
	}{
		"no stop": {emptyTour(), []api.Node{{}}},
		"T": {exampleTour(), []api.Node{
			{Plan: nil, Bound: 10625}, {Plan: []int{0}, Bound: 10550}, {Plan: []int{0, 1}, Bound: 9625}, {Plan: []int{0, 2}, Bound: 4675}, {Plan: []int{1}, Bound: 10500},
			{Plan: []int{1, 0}, Bound: 9575}, {Plan: []int{1, 2}, Bound: 6475}, {Plan: []int{2}, Bound: 10575}, {Plan: []int{2, 0}, Bound: 4725}, {Plan: []int{2, 1}, Bound: 6575},
		}},
		"the bound is reached":     {changedEasy(2, func(t *api.Tour) { t.Price = 0 }), []api.Node{{Bound: 200}}},
		"it is not, by a way back": {easyTour(1), []api.Node{{Bound: 98}, {Plan: []int{0}, Bound: 97}}},
	} {
		if proof, e := haul.Prove(c.t); !sameNodes(proof, c.want) || e != api.OK {
			t.Errorf("%s: Prove returns %v %d, not %v", name, proof, e, c.want)
		}
	}
}

// Charts of tours of whose proofs one has as many nodes as there may be, and one a node more.
const (
	chart3000 = "day 0 90 1000 1 1000\nstop 1 127 8 1 0 92\nstop 1 96 13 1 0 85\nstop 1 157 17 1 0 88\nstop 1 73 3 1 0 72\nstop 1 64 1 1 0 95\nstop 1 145 0 1 0 63\nstop 1 102 10 1 0 98\n" +
		"legs 0 0 10 1 10 1 10 1 10 1 10 1 10 1 10 1\nlegs 15 1 0 0 9 1 7 1 10 1 9 1 10 1 10 1\nlegs 7 1 6 1 0 0 10 1 10 1 8 1 7 1 10 1\nlegs 10 1 6 1 5 1 0 0 10 1 6 1 5 1 10 1\n" +
		"legs 12 1 10 1 5 1 10 1 0 0 8 1 7 1 10 1\nlegs 10 1 9 1 7 1 10 1 10 1 0 0 9 1 10 1\nlegs 10 1 10 1 6 1 8 1 8 1 10 1 0 0 10 1\nlegs 7 1 10 1 6 1 6 1 10 1 10 1 10 1 0 0\nend 7\n"
	chart3001 = "day 0 90 1000 1 1000\nstop 1 109 11 1 0 81\nstop 1 68 7 1 0 72\nstop 1 103 0 1 0 71\nstop 1 127 16 1 0 89\nstop 1 122 5 1 0 85\nstop 1 70 0 1 0 78\nstop 1 92 3 1 0 66\n" +
		"legs 0 0 10 1 10 1 10 1 10 1 10 1 10 1 10 1\nlegs 15 1 0 0 5 1 10 1 8 1 10 1 5 1 10 1\nlegs 10 1 10 1 0 0 10 1 10 1 10 1 8 1 10 1\nlegs 14 1 9 1 10 1 0 0 10 1 10 1 10 1 10 1\n" +
		"legs 12 1 10 1 6 1 11 1 0 0 10 1 10 1 10 1\nlegs 12 1 10 1 10 1 6 1 10 1 0 0 10 1 10 1\nlegs 10 1 6 1 10 1 7 1 7 1 8 1 0 0 10 1\nlegs 10 1 10 1 10 1 9 1 10 1 6 1 6 1 0 0\nend 7\n"
)

// P3.3: a proof may have 3000 nodes; P3.4: one with more is too long for Prove, but it proves.
func TestLongProofs(t *testing.T) {
	for text, nodes := range map[string]int{chart3000: 3000, chart3001: 3001} {
		tour, _, e := haul.Read(text)
		if e != api.OK {
			t.Fatal("Read returns", e)
		}
		if proof := checkProof(t, tour); len(proof) != nodes {
			t.Errorf("the proof has %d nodes, not %d", len(proof), nodes)
		}
	}
	tight := changedEasy(8, func(t *api.Tour) { t.End = 110 })
	proof := checkProof(t, tight)
	if want := 1 + 8 + 8*7 + 8*7*6 + 8*7*6*5 + 8*7*6*5*4; len(proof) != want {
		t.Errorf("the proof has %d nodes, not %d", len(proof), want)
	}
	if proved, e := haul.Proved(tight, []int{0, 1, 2, 3, 4}, proof[:len(proof)-1]); proved || e != api.OK {
		t.Error("without the last node Proved returns", proved, e)
	}
}

// P3.4: a proof is for what the plan earns: another plan that earns as much is proved too; one that earns less is not, be its own proof right.
func TestProved(t *testing.T) {
	tour := exampleTour()
	best, _ := haul.Prove(tour)
	for name, c := range map[string]struct {
		plan  []int
		proof []api.Node
		want  bool
		e     api.Errno
	}{
		"the best one":             {[]int{0, 1}, best, true, api.OK},
		"as good":                  {[]int{1, 0}, best, true, api.OK},
		"worse, its own proof":     {[]int{1}, trueProof(tour, nil, 5600), false, api.OK},
		"worse, the other proof":   {[]int{1}, best, false, api.OK},
		"the proof for more":       {[]int{0, 1}, trueProof(tour, nil, 10550), false, api.OK},
		"none, its own proof":      {nil, trueProof(tour, nil, 0), false, api.OK},
		"no node":                  {[]int{0, 1}, nil, false, api.OK},
		"the first node":           {[]int{0, 1}, best[:1], false, api.OK},
		"twice":                    {[]int{0, 1}, slices.Concat(best, best), false, api.OK},
		"a node with an odd plan":  {[]int{0, 1}, append(slices.Clone(best), api.Node{Plan: []int{-1, 99}}), false, api.OK},
		"not possible, its proof":  {[]int{0, 1, 2}, best, false, api.ErrFull},
		"not possible, no proof":   {[]int{3}, nil, false, api.ErrMissing},
		"a plan twice, its proof":  {[]int{0, 1, 1}, best, false, api.ErrExists},
		"an empty plan, not a nil": {[]int{0, 1}, changedNode(best, 0, func(n *api.Node) { n.Plan = []int{} }), true, api.OK},
	} {
		if proved, e := haul.Proved(tour, c.plan, c.proof); proved != c.want || e != c.e {
			t.Errorf("%s: Proved returns %t %d, not %t %d", name, proved, e, c.want, c.e)
		}
	}
	// As much earns the plan 0 1 too, where the stop 1 is worth nothing: it is proved as the best plan 0 is.
	even := changedEasy(2, func(t *api.Tour) { t.Price, t.Stops[1].Worth = 0, 0 })
	if proved, e := haul.Proved(even, []int{0, 1}, []api.Node{{Bound: 100}}); !proved || e != api.OK {
		t.Error("Proved returns", proved, e)
	}
	// Where the proof for less has more nodes, it proves neither the best plan nor the one that earns less.
	easy := easyTour(3)
	short, long := trueProof(easy, nil, 293), trueProof(easy, nil, 195)
	for _, c := range []struct {
		plan  []int
		proof []api.Node
		want  bool
	}{{[]int{0, 1, 2}, short, true}, {[]int{2, 1, 0}, short, true}, {[]int{0, 1, 2}, long, false}, {[]int{0, 1}, long, false}, {[]int{0, 1}, short, false}} {
		if proved, e := haul.Proved(easy, c.plan, c.proof); proved != c.want || e != api.OK || len(short) != 4 || len(long) <= 4 {
			t.Errorf("Proved of %v with %d nodes returns %t %d", c.plan, len(c.proof), proved, e)
		}
	}
	// The loss of a plan is beaten by the empty one, which is the first node.
	loss := changedEasy(1, func(t *api.Tour) { t.Price = 1000 })
	if proved, e := haul.Proved(loss, []int{0}, trueProof(loss, nil, -2900)); proved || e != api.OK {
		t.Error("Proved returns", proved, e)
	}
}
