package stock_test

import (
	"slices"
	"testing"

	"homarus/api"
	"homarus/growth"
	"homarus/stock"
)

// exampleGrowth is the growth G of the examples of layer 1.
func exampleGrowth() api.Growth {
	return api.Growth{Base: 50, Most: 1500, Stages: []api.Stage{
		{From: 0, Need: span(1000, 1200), Step: span(40, 60)},
		{From: 500, Need: span(3000, 3500), Step: span(60, 80)},
	}}
}

// P5.1: the classes in which animals may be; the example, and the ends of classes.
func TestMoves(t *testing.T) {
	slow := api.Growth{Most: 2500, Stages: []api.Stage{{Need: one(100), Step: one(10)}}}
	for name, c := range map[string]struct {
		g           api.Growth
		edges       []int
		store, heat api.Span
		low, top    []int
	}{
		"the example":              {exampleGrowth(), []int{400, 500, 560}, one(0), one(2500), []int{0, 1}, []int{1, 1}},
		"without heat":             {exampleGrowth(), []int{400, 500, 560}, one(0), one(0), []int{0, 1}, []int{0, 1}},
		"what is stored":           {exampleGrowth(), []int{400, 500, 560}, one(2500), one(0), []int{0, 1}, []int{1, 1}},
		"a store between":          {exampleGrowth(), []int{400, 440, 480, 520}, span(0, 1200), one(0), []int{0, 1, 2}, []int{2, 2, 2}},
		"10 more, each one":        {slow, []int{0, 10, 20, 30}, one(0), one(100), []int{1, 2, 2}, []int{1, 2, 2}},
		"10 more, not quite":       {slow, []int{0, 10, 20, 30}, one(0), one(99), []int{0, 1, 2}, []int{0, 1, 2}},
		"10 more, perhaps":         {slow, []int{0, 10, 20, 30}, span(0, 1), one(99), []int{0, 1, 2}, []int{1, 2, 2}},
		"20 more at most":          {slow, []int{0, 10, 20, 30}, one(0), span(99, 200), []int{0, 1, 2}, []int{2, 2, 2}},
		"to the edge":              {slow, []int{0, 5, 12, 20, 2491}, one(0), one(100), []int{1, 2, 3, 3}, []int{2, 3, 3, 3}},
		"behind the last edge":     {slow, []int{0, 1}, one(0), one(1000), []int{0}, []int{0}},
		"classes not from 0 on":    {slow, []int{20, 25, 31, 35}, one(0), one(100), []int{1, 2, 2}, []int{2, 2, 2}},
		"all sizes":                {slow, []int{0, 2501}, one(0), one(0), []int{0}, []int{0}},
		"the greatest size":        {slow, []int{0, 2500, 2501}, one(0), one(100), []int{0, 1}, []int{1, 1}},
		"none beyond Most":         {api.Growth{Most: 15, Stages: slow.Stages}, []int{0, 10, 16, 30}, one(0), one(900), []int{1, 1, 2}, []int{1, 1, 2}},
		"not all of a class grow":  {api.Growth{Most: 100, Stages: []api.Stage{{Need: one(100), Step: one(0)}, {From: 5, Need: one(100), Step: one(10)}}}, []int{0, 10, 20}, one(0), one(100), []int{0, 1}, []int{1, 1}},
		"more than ten classes":    {slow, []int{0, 10, 20, 30, 40, 50, 60, 70, 80, 90, 100, 110, 120}, one(0), one(100), []int{1, 2, 3, 4, 5, 6, 7, 8, 9, 10, 11, 11}, []int{1, 2, 3, 4, 5, 6, 7, 8, 9, 10, 11, 11}},
		"the last one of 20 steps": {slow, []int{0, 10, 20, 30, 120}, one(0), one(1200), []int{3, 3, 3, 3}, []int{3, 3, 3, 3}},
	} {
		low, top, e := stock.Moves(c.g, c.edges, c.store, c.heat)
		if !slices.Equal(low, c.low) || !slices.Equal(top, c.top) || e != api.OK {
			t.Errorf("%s: Moves returns %v %v %d, not %v %v", name, low, top, e, c.low, c.top)
		}
	}
}

// P5.1: the errors of the growth, of the edges, and, class by class, of an animal (R1).
func TestMovesErrors(t *testing.T) {
	g, wrong := exampleGrowth(), exampleGrowth()
	wrong.Stages[1].From = 0
	fast := api.Growth{Most: 2500, Stages: []api.Stage{{Need: one(100), Step: one(1)}, {From: 1000, Need: one(1), Step: one(1)}}}
	for name, c := range map[string]struct {
		g           api.Growth
		edges       []int
		store, heat api.Span
		want        api.Errno
	}{
		"as it is":                   {g, []int{400, 500}, one(0), one(0), api.OK},
		"no stage":                   {api.Growth{}, nil, one(-1), one(-1), api.ErrShort},
		"a wrong stage":              {wrong, nil, one(-1), one(-1), api.ErrOrder},
		"Base":                       {api.Growth{Base: 401, Stages: g.Stages}, nil, one(-1), one(-1), api.ErrRange},
		"no edge":                    {g, nil, one(-1), one(-1), api.ErrShort},
		"1 edge":                     {g, []int{0}, one(-1), one(-1), api.ErrShort},
		"21 edges":                   {g, steps(21), one(0), one(0), api.OK},
		"22 edges":                   {g, steps(22), one(-1), one(-1), api.ErrFull},
		"22 edges of 0":              {g, make([]int, 22), one(-1), one(-1), api.ErrFull},
		"edge -1":                    {g, []int{-1, 0}, one(3), span(2, 1), api.ErrRange},
		"edge 2501":                  {g, []int{0, 2501}, one(0), one(0), api.OK},
		"edge 2502":                  {g, []int{0, 2502}, span(2, 1), one(0), api.ErrRange},
		"edges 5 5":                  {g, []int{5, 5}, one(-1), one(0), api.ErrOrder},
		"edges 6 5":                  {g, []int{6, 5}, one(-1), one(0), api.ErrOrder},
		"edges 0 6 5":                {g, []int{0, 6, 5}, one(-1), one(0), api.ErrOrder},
		"edges 6 5 -1":               {g, []int{6, 5, -1}, one(-1), one(0), api.ErrOrder},
		"store -1":                   {g, []int{0, 1}, span(-1, 0), span(2, 1), api.ErrRange},
		"store 2..1":                 {g, []int{0, 1}, span(2, 1), one(-1), api.ErrOrder},
		"store at most":              {g, []int{1500, 1501}, one(30000), one(0), api.OK},
		"store above":                {g, []int{0, 1}, span(0, 1000001), one(0), api.ErrRange},
		"heat -1":                    {g, []int{0, 1}, one(0), span(-1, 0), api.ErrRange},
		"heat 2..1":                  {g, []int{0, 1}, one(0), span(2, 1), api.ErrOrder},
		"heat above":                 {g, []int{0, 1}, one(0), span(0, 1000001), api.ErrRange},
		"12 moults":                  {fast, []int{0, 10}, one(100), one(1199), api.OK},
		"13 moults":                  {fast, []int{0, 10}, one(100), one(1200), api.ErrFull},
		"13 moults, perhaps":         {fast, []int{0, 10}, span(0, 100), span(0, 1200), api.ErrFull},
		"12 moults, the last class":  {fast, []int{0, 10, 1000, 1001}, one(0), one(12), api.OK},
		"13 moults, the last class":  {fast, []int{0, 10, 1000, 1001}, one(0), one(13), api.ErrFull},
		"13 moults behind all edges": {fast, []int{0, 10, 900}, one(0), one(13), api.OK},
	} {
		low, top, e := stock.Moves(c.g, c.edges, c.store, c.heat)
		if e != c.want || e == api.OK && len(low) != len(c.edges)-1 || e != api.OK && len(low) > 0 || len(low) != len(top) {
			t.Errorf("%s: Moves returns %v %v %d, not %d", name, low, top, e, c.want)
		}
	}
}

// steps returns so many edges.
func steps(edges int) []int {
	var list []int
	for i := range edges {
		list = append(list, 10*i)
	}
	return list
}

// grown is a size and a store of heat that an animal truly may have.
type grown struct{ size, store int }

// grow finds all sizes that an animal may truly have afterwards (layer 1).
func grow(g api.Growth, now grown, seen map[grown]bool, sizes map[int]bool) {
	if seen[now] {
		return
	}
	seen[now] = true
	stage := g.Stages[0]
	for _, other := range g.Stages {
		if other.From <= now.size {
			stage = other
		}
	}
	for need := stage.Need.Lo; need <= stage.Need.Hi; need++ {
		if now.store < need {
			sizes[now.size] = true
			continue
		}
		for step := stage.Step.Lo; step <= stage.Step.Hi; step++ {
			grow(g, grown{max(now.size, min(now.size+step, g.Most)), now.store - need}, seen, sizes)
		}
	}
}

// classAfter returns the class of a size, where sizes that are not less than the last edge count as those of the last class.
func classAfter(edges []int, size int) int {
	class := 0
	for i := range len(edges) - 1 {
		if edges[i] <= size {
			class = i
		}
	}
	return class
}

// growth returns a growth of small sizes.
func (r random) growth() api.Growth {
	g := api.Growth{Most: r.in(5, 40), Stages: []api.Stage{{Need: r.span(3, 9), Step: r.span(0, 6)}}}
	if r.yes() {
		g.Stages = append(g.Stages, api.Stage{From: r.in(1, 25), Need: r.span(3, 9), Step: r.span(0, 6)})
	}
	return g
}

// edges returns some edges of small sizes.
func (r random) edges() []int {
	edges := r.Perm(40)[:r.in(2, 6)]
	slices.Sort(edges)
	return edges
}

// P5.1, P5.14, P0: however an animal of a class truly grows, it is in a class from Low to Top; and both are reached.
func TestMovesAreTrueAndReached(t *testing.T) {
	r := newRandom()
	moved := 0
	for range 2000 {
		g, edges, store, heat := r.growth(), r.edges(), r.span(0, 8), r.span(0, 12)
		low, top, e := stock.Moves(g, edges, store, heat)
		if e != api.OK {
			t.Fatalf("Moves(%v, %v, %v, %v) returns %d", g, edges, store, heat, e)
		}
		for c := range len(edges) - 1 {
			seen, sizes := map[grown]bool{}, map[int]bool{}
			for size := edges[c]; size < edges[c+1]; size++ {
				for all := store.Lo + heat.Lo; all <= store.Hi+heat.Hi; all++ {
					grow(g, grown{size, all}, seen, sizes)
				}
			}
			want := span(len(edges), -1)
			for size := range sizes {
				class := classAfter(edges, size)
				want = span(min(want.Lo, class), max(want.Hi, class))
			}
			if low[c] != want.Lo || top[c] != want.Hi || low[c] < c {
				t.Fatalf("Moves(%v, %v, %v, %v) returns %v %v, but the class %d moves to %v", g, edges, store, heat, low, top, c, want)
			}
			if low[c] > c {
				moved++
			}
		}
	}
	if moved < 200 {
		t.Errorf("only %d classes moved as a whole", moved)
	}
}

// P5.14: what Moves says of up to ten classes is as the Low and the Top of a year have to be.
func TestMovesAreThoseOfAYear(t *testing.T) {
	r := newRandom()
	for range 500 {
		g, edges := r.growth(), r.edges()
		low, top, e := stock.Moves(g, edges, r.span(0, 8), r.span(0, 12))
		s := api.Stock{Classes: len(edges) - 1, Years: []api.Year{{Low: low, Top: top}}}
		if f := stock.Check(s); e != api.OK || f != api.OK {
			t.Fatalf("Moves returns %v %v %d, and Check %d", low, top, e, f)
		}
	}
}

// P5.1, T1: animals of the last class that grow out of it are those behind the last edge of layer 1.
func TestMovesGoWithReach(t *testing.T) {
	g, edges := exampleGrowth(), []int{400, 500, 560, 900}
	next, e := growth.Next(g, edges, []api.Span{one(100), span(10, 20), one(0)}, one(0), one(2500), one(api.Mil))
	low, top, f := stock.Moves(g, edges, one(0), one(2500))
	if e != api.OK || f != api.OK || next[3] != one(0) || !slices.Equal(low, []int{0, 1, 2}) || !slices.Equal(top, []int{1, 1, 2}) {
		t.Error("Next returns", next, e, "and Moves", low, top, f)
	}
}
