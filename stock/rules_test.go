package stock_test

import (
	"math"
	"reflect"
	"slices"
	"testing"

	"homarus/api"
	"homarus/stock"
)

// call is arguments for all functions of the package.
type call struct {
	g              api.Growth
	edges          []int
	store, heat    api.Span
	s              api.Stock
	history        [][]int
	year, from, to int
	r              api.Rule
	n              int
	text           string
}

// results are what the functions of the package return, by their names.
type results map[string]result

type result struct {
	values []any
	e      api.Errno
}

// ofStock calls each function that has a stock as an argument.
func (c call) ofStock() results {
	all := results{}
	add := func(name string, e api.Errno, values ...any) { all[name] = result{values, e} }
	add("Check", stock.Check(c.s))
	allowed, e := stock.Allowed(c.s, c.history)
	add("Allowed", e, allowed)
	numbers, e := stock.Range(c.s, c.year, c.from, c.to)
	add("Range", e, numbers)
	bounds, e := stock.Bounds(c.s)
	add("Bounds", e, bounds)
	conflict, e := stock.Conflict(c.s)
	add("Conflict", e, conflict)
	verdict, least, e := stock.Keep(c.s, c.r, c.year)
	add("Keep", e, verdict, least)
	safe, e := stock.Safe(c.s, c.r, c.year)
	add("Safe", e, safe)
	text, e := stock.Write(c.s)
	add("Write", e, text)
	return all
}

// results calls each function.
func (c call) results() results {
	all := c.ofStock()
	low, top, e := stock.Moves(c.g, c.edges, c.store, c.heat)
	all["Moves"] = result{[]any{low, top}, e}
	quota, e := stock.Quota(c.r, c.n)
	all["Quota"] = result{[]any{quota}, e}
	read, row, e := stock.Read(c.text)
	if e == api.ErrForm && row > 0 {
		row = 0 // not a zero value, but right
	}
	all["Read"] = result{[]any{read, row}, e}
	return all
}

// cloneStock returns a stock with memory of its own.
func cloneStock(s api.Stock) api.Stock {
	s.Years, s.Signs = slices.Clone(s.Years), slices.Clone(s.Signs)
	for i, y := range s.Years {
		s.Years[i].Low, s.Years[i].Top = slices.Clone(y.Low), slices.Clone(y.Top)
	}
	return s
}

// clone returns the arguments with memory of their own.
func (c call) clone() call {
	c.g.Stages, c.edges, c.s, c.history = slices.Clone(c.g.Stages), slices.Clone(c.edges), cloneStock(c.s), slices.Clone(c.history)
	for i, row := range c.history {
		c.history[i] = slices.Clone(row)
	}
	return c
}

// ordinary is arguments without an error, but for Conflict.
func ordinary() call {
	return call{
		g: exampleGrowth(), edges: []int{400, 500, 560}, heat: one(2500), s: example(), history: [][]int{{50, 40, 10}, {15, 60, 20}},
		year: 1, from: 1, to: 2, r: exampleRule(), n: 61, text: exampleSheet,
	}
}

// any number, most of them at the edge of something.
func (r random) any() int {
	few := []int{math.MinInt, math.MinInt + 1, -2, -1, 0, 1, 2, 3, 4, 5, 6, 9, 10, 11, 12, 70, 100, 2500, 2501, 499999, 500000, 500001, 999999, 1000000, 1000001, 1000000000, 1000000001, math.MaxInt32, math.MaxInt - 1, math.MaxInt}
	if r.Intn(3) == 0 {
		return r.in(0, 150)
	}
	return few[r.Intn(len(few))]
}

// damage changes something of the arguments to anything.
func (r random) damage(c *call) {
	year := func() *api.Year { return &c.s.Years[r.Intn(len(c.s.Years))] }
	sign := func() *api.Sign { return &c.s.Signs[r.Intn(len(c.s.Signs))] }
	for _, change := range []func(){
		func() { c.g.Base = r.any() },
		func() { c.g.Stages[r.Intn(2)].Step.Lo = r.any() },
		func() { c.edges[r.Intn(len(c.edges))] = r.any() },
		func() { c.edges = slices.Repeat(c.edges, r.in(0, 9)) },
		func() { c.store = span(r.any(), r.any()) },
		func() { c.heat.Hi = r.any() },
		func() { c.s.Classes = r.any() },
		func() { year().Low[r.Intn(3)] = r.any() },
		func() { year().Top[r.Intn(3)] = r.any() },
		func() { year().Low = make([]int, r.in(0, 4)) },
		func() { year().Dead.Lo = r.any() },
		func() { year().Dead.Hi = r.any() },
		func() { year().Young.Lo = r.any() },
		func() { year().Young.Hi = r.any() },
		func() { c.s.Years = slices.Repeat(c.s.Years, r.in(0, 7)) },
		func() { c.s.Years = append(c.s.Years, c.s.Years...) },
		func() { sign().Kind = r.any() },
		func() { sign().Year = r.any() },
		func() { sign().From = r.any() },
		func() { sign().To = r.any() },
		func() { sign().Number = one(r.any()) },
		func() { sign().Number.Hi = r.any() },
		func() { sign().Part = one(r.any()) },
		func() { sign().Part.Hi = r.any() },
		func() { c.s.Signs = slices.Repeat(c.s.Signs, r.in(0, 5)) },
		func() { c.history[r.Intn(2)][r.Intn(3)] = r.any() },
		func() { c.history = slices.Repeat(c.history, r.in(0, 3)) },
		func() { c.history[r.Intn(2)] = make([]int, r.in(0, 4)) },
		func() { c.year = r.any() },
		func() { c.from = r.any() },
		func() { c.to = r.any() },
		func() { c.r.Class = r.any() },
		func() { c.r.Point = r.any() },
		func() { c.r.Part = r.any() },
		func() { c.r.Cap = r.any() },
		func() { c.r.Live.Lo = r.any() },
		func() { c.r.Live.Hi = r.any() },
		func() { c.n = r.any() },
		func() { c.text = r.changedText(c.text) },
		func() { c.text = string([]byte{0, 255, 10, 32}) + c.text },
	} {
		if r.Intn(30) == 0 {
			change()
		}
	}
}

// isZero says whether a value is the zero value of its type, or a slice without items.
func isZero(v any) bool {
	x := reflect.ValueOf(v)
	return x.IsZero() || x.Kind() == reflect.Slice && x.Len() == 0
}

// P1, R3, R4, R5: for any arguments each call comes to an end, with zero values beside an error, and leaves its arguments as they were; R2, R6: and a second call says the same.
func TestAnyArguments(t *testing.T) {
	r := newRandom()
	wrong, right := map[string]int{}, map[string]int{}
	for range 4000 {
		c := ordinary()
		for range r.in(0, 3) {
			damaged := c.clone()
			if !panics(func() { r.damage(&damaged) }) {
				c = damaged
			}
		}
		before := c.clone()
		first := c.results()
		if !reflect.DeepEqual(c.clone(), before.clone()) {
			t.Fatalf("%v is changed to %v", before, c)
		}
		for name, x := range first {
			if x.e == api.OK {
				right[name]++
				continue
			}
			wrong[name]++
			for _, v := range x.values {
				if !isZero(v) {
					t.Fatalf("%v: %s returns %v with the error %d", c, name, v, x.e)
				}
			}
		}
		if second := c.results(); !reflect.DeepEqual(first, second) {
			t.Fatalf("%v: the results are %v, then %v", c, first, second)
		}
	}
	for name := range ordinary().results() {
		if wrong[name] < 100 || right[name] < 100 && !(name == "Conflict" && right[name] >= 30) {
			t.Errorf("%s had %d errors, and none %d times", name, wrong[name], right[name])
		}
	}
}

// panics says whether f does: damage of what has been damaged before may find nothing to change.
func panics(f func()) (yes bool) {
	defer func() { yes = recover() != nil }()
	f()
	return false
}

// R4: a nil slice and an empty one are equal.
func TestNilAndEmpty(t *testing.T) {
	none := call{g: exampleGrowth(), s: api.Stock{Classes: 1}, history: [][]int{{0}}, text: exampleSheet}
	empty := none.clone()
	empty.edges, empty.s.Years, empty.s.Signs = []int{}, []api.Year{}, []api.Sign{}
	want := empty.results()
	for name, a := range none.results() {
		b := want[name]
		if a.e != b.e || a.e != api.OK && name != "Moves" && name != "Conflict" || !reflect.DeepEqual(a.values, b.values) {
			t.Errorf("%s returns %v, and for empty slices %v", name, a, b)
		}
	}
	for _, low := range [][]int{nil, {}} {
		if e := stock.Check(api.Stock{Classes: 1, Years: []api.Year{{Low: low, Top: []int{0}}}}); e != api.ErrForm {
			t.Error("without a Low Check returns", e)
		}
		if ok, e := stock.Allowed(api.Stock{Classes: 1}, [][]int{low}); ok || e != api.ErrForm {
			t.Error("without a number Allowed returns", ok, e)
		}
	}
	for _, history := range [][][]int{nil, {}} {
		if ok, e := stock.Allowed(api.Stock{Classes: 1}, history); ok || e != api.ErrForm {
			t.Error("without a row Allowed returns", ok, e)
		}
	}
}

// spoil writes over all memory of a list.
func spoil[T any](list []T, with T) {
	list = list[:cap(list)]
	for i := range list {
		list[i] = with
	}
}

// R4: what is done to a result changes no argument, and no other result.
func TestResultsHaveTheirOwnMemory(t *testing.T) {
	c := ordinary()
	c.s.Signs = append(c.s.Signs, counted(1, 0, 2, 50, 60))
	conflict, _ := stock.Conflict(c.s)
	spoil(conflict, -7)
	c = ordinary()
	want := c.results()
	low, top, _ := stock.Moves(c.g, c.edges, c.store, c.heat)
	spoil(low, -7)
	if slices.Contains(top, -7) {
		t.Error("results of Moves share memory")
	}
	spoil(top, -7)
	bounds, _ := stock.Bounds(c.s)
	for i, row := range bounds {
		spoil(row, one(-7))
		for _, other := range bounds[i+1:] {
			if slices.Contains(other, one(-7)) {
				t.Error("rows of Bounds share memory")
			}
		}
	}
	spoil(bounds, nil)
	read, _, _ := stock.Read("stock 2\nyear 0 0 0 0 0 1 1 1\nyear 0 0 0 0 0 1 1 1\nsign 1 0 0 0 0 0 0 0\nend 1\n")
	var lists [][]int
	for _, y := range read.Years {
		lists = append(lists, y.Low, y.Top)
	}
	for i, list := range lists {
		spoil(list, -7)
		for _, other := range lists[i+1:] {
			if slices.Contains(other, -7) {
				t.Error("years share memory")
			}
		}
	}
	spoil(read.Years, api.Year{Dead: one(-7)})
	spoil(read.Signs, api.Sign{Kind: -7})
	if !reflect.DeepEqual(c, ordinary()) || !reflect.DeepEqual(c.results(), want) {
		t.Error("a result shares memory with an argument")
	}
}

// P1: calls with much work come to an end: very long lists, and stocks with as much as can be.
func TestGreatestWork(t *testing.T) {
	long := make([]int, 1000000)
	c := call{
		g: exampleGrowth(), edges: long, s: api.Stock{Classes: 10, Years: []api.Year{{Low: long, Top: long}}, Signs: make([]api.Sign, 1000000)},
		history: slices.Repeat([][]int{long}, 1000), text: string(make([]byte, 1000000)),
	}
	for name, x := range c.results() {
		want, ok := map[string]api.Errno{"Moves": api.ErrFull, "Quota": api.OK, "Read": api.ErrLong}[name]
		if !ok {
			want = api.ErrForm
		}
		if x.e != want {
			t.Errorf("%s returns %d, not %d", name, x.e, want)
		}
	}
	c.s = api.Stock{Classes: 1}
	if r := c.results()["Allowed"]; r.e != api.ErrForm {
		t.Errorf("Allowed returns %d", r.e)
	}
	full := call{s: greatestStock(), history: slices.Repeat([][]int{slices.Repeat([]int{most}, 10)}, 6), to: 9}
	for name, x := range full.ofStock() {
		want := map[string]api.Errno{"Range": api.ErrClash, "Bounds": api.ErrClash, "Keep": api.ErrClash, "Safe": api.ErrClash}[name]
		if x.e != want {
			t.Errorf("%s returns %d, not %d", name, x.e, want)
		}
	}
}
