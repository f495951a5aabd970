package catch_test

import (
	"math"
	"reflect"
	"slices"
	"testing"

	"homarus/api"
	"homarus/catch"
)

// call is arguments for all functions of the package.
type call struct {
	g            api.Gauge
	c            api.Caught
	edges        []int
	bulk         int
	l, sea, dock []api.Caught
	t            api.Voyage
	text         string
}

// result is all results of a function.
type result struct {
	values []any
	e      api.Errno
}

// results calls each function.
func (c call) results() map[string]result {
	all := map[string]result{}
	add := func(name string, e api.Errno, values ...any) { all[name] = result{values, e} }
	add("Check", catch.Check(c.g))
	add("CheckCaught", catch.CheckCaught(c.c))
	reasons, e := catch.Reasons(c.g, c.c)
	add("Reasons", e, reasons)
	keep, e := catch.Keep(c.g, c.c)
	add("Keep", e, keep)
	counts, e := catch.Counts(c.edges, c.l)
	add("Counts", e, counts)
	weight, e := catch.Weight(c.bulk, c.l)
	add("Weight", e, weight)
	add("CheckTrip", catch.CheckTrip(c.t))
	kept, back, dead, e := catch.Fates(c.t)
	add("Fates", e, kept, back, dead)
	released, e := catch.Released(c.t)
	add("Released", e, released)
	verdict, pairs, proof, e := catch.Honest(c.sea, c.dock)
	add("Honest", e, verdict, pairs, proof)
	text, e := catch.Write(c.t)
	add("Write", e, text)
	read, row, e := catch.Read(c.text)
	if e == api.ErrForm && row > 0 {
		row = 0 // not a zero value, but right
	}
	add("Read", e, read.Gauge, read.Pulls, row)
	return all
}

// cloneTrip returns a trip with memory of its own.
func cloneTrip(t api.Voyage) api.Voyage {
	t.Pulls = slices.Clone(t.Pulls)
	for i, p := range t.Pulls {
		t.Pulls[i].Animals, t.Pulls[i].Fates = slices.Clone(p.Animals), slices.Clone(p.Fates)
	}
	return t
}

// clone returns the arguments with memory of their own.
func (c call) clone() call {
	c.edges, c.l, c.sea, c.dock, c.t = slices.Clone(c.edges), slices.Clone(c.l), slices.Clone(c.sea), slices.Clone(c.dock), cloneTrip(c.t)
	return c
}

// ordinary is arguments without an error.
func ordinary() call {
	list := []api.Caught{femaleA(), maleM(), femaleN()}
	return call{g: gaugeG(), c: femaleA(), edges: []int{800, 830, 900, 1000}, bulk: 1000, l: list, sea: slices.Clone(list), dock: []api.Caught{maleM(), femaleA(), femaleN()}, t: longTrip(), text: longSheet}
}

// any number, most of them at the edge of something.
func (r random) any() int {
	few := []int{math.MinInt, math.MinInt + 1, -2, -1, 0, 1, 2, 3, 4, 5, 19, 20, 39, 40, 830, 1270, 2499, 2500, 2501, 2502, 100000, 100001, math.MaxInt32, math.MaxInt - 1, math.MaxInt}
	if r.Intn(4) == 0 {
		return r.in(-5, 3000)
	}
	return few[r.Intn(len(few))]
}

// spoiled changes something of an animal to anything.
func (r random) spoiled(c *api.Caught) {
	fields := []*int{&c.Size.Lo, &c.Size.Hi, &c.Sex, &c.Eggs, &c.Notch, &c.Shell}
	*fields[r.Intn(len(fields))] = r.any()
}

// damage changes something of the arguments to anything.
func (r random) damage(c *call) {
	for _, change := range []func(){
		func() { c.g.Low = r.any() },
		func() { c.g.High = r.any() },
		func() { r.spoiled(&c.c) },
		func() { c.edges[r.Intn(len(c.edges))] = r.any() },
		func() { c.edges = slices.Repeat(c.edges, r.in(0, 7)) },
		func() { c.bulk = r.any() },
		func() { r.spoiled(&c.l[r.Intn(len(c.l))]) },
		func() { c.l = slices.Repeat(c.l, r.in(0, 250)) },
		func() { r.spoiled(&c.sea[r.Intn(len(c.sea))]) },
		func() { c.sea = slices.Repeat(c.sea, r.in(0, 5)) },
		func() { r.spoiled(&c.dock[r.Intn(len(c.dock))]) },
		func() { c.dock = slices.Repeat(c.dock, r.in(0, 5)) },
		func() { c.t.Gauge.Low = r.any() },
		func() { c.t.Gauge.High = r.any() },
		func() { c.t.Pulls[r.Intn(3)].Tag = r.any() },
		func() { c.t.Pulls = slices.Repeat(c.t.Pulls, r.in(0, 8)) },
		func() { p := &c.t.Pulls[r.Intn(3)]; r.spoiled(&p.Animals[r.Intn(len(p.Animals))]) },
		func() { p := &c.t.Pulls[r.Intn(3)]; p.Fates[r.Intn(len(p.Fates))] = r.any() },
		func() { p := &c.t.Pulls[r.Intn(3)]; p.Fates = slices.Repeat(p.Fates, r.in(0, 9)) },
		func() { p := &c.t.Pulls[r.Intn(3)]; p.Animals = slices.Repeat(p.Animals, r.in(0, 9)) },
		func() { c.text = r.changedText(c.text) },
		func() { c.text = string([]byte{0, 255, 10, 32}) + c.text },
	} {
		if r.Intn(16) == 0 {
			change()
		}
	}
}

// isZero says whether a value is the zero value of its type, or a slice without items.
func isZero(v any) bool {
	x := reflect.ValueOf(v)
	return x.IsZero() || x.Kind() == reflect.Slice && x.Len() == 0
}

// P1, R3, R4, R5: for any arguments each call comes to an end, with zero values beside an error, and leaves its arguments as they were; R2, R6: and a second call says the same.
func TestAnyArguments(t *testing.T) {
	r := newRandom()
	wrong, right := map[string]int{}, map[string]int{}
	for range 4000 {
		c := ordinary()
		for range r.in(0, 3) {
			damaged := c.clone()
			if !panics(func() { r.damage(&damaged) }) {
				c = damaged
			}
		}
		before := c.clone()
		first := c.results()
		if !reflect.DeepEqual(c.clone(), before.clone()) {
			t.Fatalf("%v is changed to %v", before, c)
		}
		for name, x := range first {
			if x.e == api.OK {
				right[name]++
				continue
			}
			wrong[name]++
			for _, v := range x.values {
				if !isZero(v) {
					t.Fatalf("%v: %s returns %v with the error %d", c, name, v, x.e)
				}
			}
		}
		if second := c.results(); !reflect.DeepEqual(first, second) {
			t.Fatalf("%v: the results are %v, then %v", c, first, second)
		}
	}
	for name := range ordinary().results() {
		if wrong[name] < 100 || right[name] < 100 {
			t.Errorf("%s had %d errors, and none %d times", name, wrong[name], right[name])
		}
	}
}

// panics says whether f does: damage of what has been damaged before may find nothing to change.
func panics(f func()) (yes bool) {
	defer func() { yes = recover() != nil }()
	f()
	return false
}

// R4: a nil slice and an empty one are equal.
func TestNilAndEmpty(t *testing.T) {
	none := call{edges: []int{0, 1}, bulk: 1, text: exampleSheet, t: api.Voyage{Pulls: []api.Pull{{}}}}
	empty := none.clone()
	empty.l, empty.sea, empty.dock = []api.Caught{}, []api.Caught{}, []api.Caught{}
	empty.t.Pulls[0].Animals, empty.t.Pulls[0].Fates = []api.Caught{}, []int{}
	want := empty.results()
	for name, a := range none.results() {
		b := want[name]
		if a.e != b.e || a.e != api.OK && name != "CheckCaught" && name != "Reasons" && name != "Keep" || !reflect.DeepEqual(a.values, b.values) {
			t.Errorf("%s returns %v, and for empty slices %v", name, a, b)
		}
	}
	if s, e := catch.Write(api.Voyage{Pulls: []api.Pull{}}); s != "gauge 0 0 - - -\nend 0\n" || e != api.OK {
		t.Errorf("Write returns %q %d", s, e)
	}
	if _, e := catch.Counts([]int{}, nil); e != api.ErrShort {
		t.Error("without an edge Counts returns", e)
	}
}

// spoil writes over all memory of a list.
func spoil[T any](list []T, with T) {
	list = list[:cap(list)]
	for i := range list {
		list[i] = with
	}
}

// R4: what is done to a result changes no argument, and no other result.
func TestResultsHaveTheirOwnMemory(t *testing.T) {
	c := ordinary()
	want := c.results()
	spoiled := api.Caught{Sex: -7}
	reasons, _ := catch.Reasons(c.g, c.c)
	spoil(reasons, -7)
	counts, _ := catch.Counts(c.edges, c.l)
	spoil(counts, one(-7))
	kept, back, dead, _ := catch.Fates(c.t)
	spoil(kept, spoiled)
	if slices.Contains(append(slices.Clone(back), dead...), spoiled) {
		t.Error("results of Fates share memory")
	}
	spoil(back, spoiled)
	if slices.Contains(dead, spoiled) {
		t.Error("results of Fates share memory")
	}
	spoil(dead, spoiled)
	released, _ := catch.Released(c.t)
	spoil(released, spoiled)
	_, pairs, _, _ := catch.Honest(c.sea, c.dock)
	spoil(pairs, -7)
	_, _, proof, _ := catch.Honest(c.sea, slices.Repeat(c.dock[:1], 3))
	spoil(proof, -7)
	read, _, _ := catch.Read(c.text)
	for i, p := range read.Pulls {
		spoil(p.Animals, spoiled)
		spoil(p.Fates, -7)
		for _, other := range read.Pulls[i+1:] {
			if slices.Contains(other.Animals, spoiled) || slices.Contains(other.Fates, -7) {
				t.Error("pulls share memory")
			}
		}
	}
	spoil(read.Pulls, api.Pull{Tag: -7})
	if !reflect.DeepEqual(c, ordinary()) || !reflect.DeepEqual(c.results(), want) {
		t.Error("a result shares memory with an argument")
	}
}

// P1: calls with much work come to an end: very long lists, and a trip whose pulls are one and the same.
func TestGreatestWork(t *testing.T) {
	list := slices.Repeat([]api.Caught{sized(0, 2500)}, 1000000)
	c := call{c: femaleA(), edges: make([]int, 1000000), bulk: 1, l: list, sea: list, dock: list, text: string(make([]byte, 1000000))}
	c.t.Pulls = slices.Repeat([]api.Pull{{Animals: list}}, 20)
	for name, r := range c.results() {
		want := map[string]api.Errno{"Counts": api.ErrFull, "Weight": api.ErrFull, "Honest": api.ErrFull, "CheckTrip": api.ErrFull, "Fates": api.ErrFull, "Released": api.ErrFull, "Write": api.ErrFull, "Read": api.ErrLong}[name]
		if r.e != want {
			t.Errorf("%s returns %d, not %d", name, r.e, want)
		}
	}
}
