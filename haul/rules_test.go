package haul_test

import (
	"math"
	"reflect"
	"slices"
	"strings"
	"testing"

	"homarus/api"
	"homarus/haul"
)

// cloneTour returns a tour with memory of its own.
func cloneTour(t api.Tour) api.Tour {
	t.Stops, t.Legs = slices.Clone(t.Stops), slices.Clone(t.Legs)
	for i, row := range t.Legs {
		t.Legs[i] = slices.Clone(row)
	}
	return t
}

// cloneProof returns a proof with memory of its own.
func cloneProof(proof []api.Node) []api.Node {
	proof = slices.Clone(proof)
	for i := range proof {
		proof[i].Plan = slices.Clone(proof[i].Plan)
	}
	return proof
}

// clone returns the arguments with memory of their own.
func (c call) clone() call {
	return call{t: cloneTour(c.t), plan: slices.Clone(c.plan), proof: cloneProof(c.proof), text: c.text}
}

// sameTour says whether two tours are equal; a nil slice is an empty one.
func sameTour(a, b api.Tour) bool {
	same := slices.Equal(a.Stops, b.Stops) && slices.EqualFunc(a.Legs, b.Legs, slices.Equal[[]api.Leg])
	a.Stops, a.Legs, b.Stops, b.Legs = nil, nil, nil, nil
	return same && reflect.DeepEqual(a, b)
}

// ordinary is arguments without an error.
func ordinary() call {
	proof, _ := haul.Prove(exampleTour())
	return call{t: exampleTour(), plan: []int{0, 1}, proof: proof, text: trueChart(exampleTour())}
}

// any number, most of them at the edge of something.
func (r random) any() int {
	few := []int{math.MinInt, math.MinInt + 1, -2, -1, 0, 1, 2, 3, 4, 8, 9, 299, 300, 301, 599, 600, 601, 1000, 1001, 1440, 1441, 100000, 100001, 1000000, 1000001, math.MaxInt32, math.MaxInt - 1, math.MaxInt}
	if r.Intn(3) == 0 {
		return r.in(0, 1500)
	}
	return few[r.Intn(len(few))]
}

// damage changes something of the arguments to anything.
func (r random) damage(c *call) {
	for _, change := range []func(){
		func() { c.t.Start = r.any() },
		func() { c.t.End = r.any() },
		func() { c.t.Tank = r.any() },
		func() { c.t.Price = r.any() },
		func() { c.t.Bait = r.any() },
		func() { c.t.Stops[r.Intn(3)].Traps = r.any() },
		func() { c.t.Stops[r.Intn(3)].Worth = r.any() },
		func() { c.t.Stops[r.Intn(3)].Work = r.any() },
		func() { c.t.Stops[r.Intn(3)].Fuel = r.any() },
		func() { c.t.Stops[r.Intn(3)].From = r.any() },
		func() { c.t.Stops[r.Intn(3)].To = r.any() },
		func() { c.t.Stops = slices.Repeat(c.t.Stops, r.in(0, 4)) },
		func() { c.t.Legs[r.Intn(4)][r.Intn(4)].Minutes = r.any() },
		func() { c.t.Legs[r.Intn(4)][r.Intn(4)].Fuel = r.any() },
		func() { c.t.Legs[r.Intn(4)] = make([]api.Leg, r.Intn(6)) },
		func() { c.t.Legs = make([][]api.Leg, r.Intn(6)) },
		func() { c.plan[r.Intn(2)] = r.any() },
		func() { c.plan = append(c.plan, r.any()) },
		func() { c.plan = c.plan[:r.Intn(2)] },
		func() { c.plan = slices.Repeat(c.plan, r.in(0, 99)) },
		func() { c.proof[r.Intn(10)].Bound = r.any() },
		func() { c.proof[r.Intn(10)].Plan = []int{r.any(), r.any()} },
		func() { c.proof = slices.Repeat(c.proof, r.in(0, 99)) },
		func() { c.text = r.changedText(c.text) },
		func() { c.text = string([]byte{0, 255, 10, 32}) + c.text },
		func() { c.text = strings.Replace(c.text, " 10 ", " 1001 ", r.in(1, 2)) },
	} {
		if r.Intn(25) == 0 {
			change()
		}
	}
}

// isZero says whether a value is the zero value of its type, or a slice without items.
func isZero(v any) bool {
	x := reflect.ValueOf(v)
	return x.IsZero() || x.Kind() == reflect.Slice && x.Len() == 0
}

// P1, R3, R4, R5: for any arguments each call comes to an end, with zero values beside an error, and leaves its arguments as they were; R2, R6: and a second call says the same.
func TestAnyArguments(t *testing.T) {
	r := newRandom()
	wrong, right := map[string]int{}, map[string]int{}
	for range 4000 {
		c := ordinary()
		for range r.in(0, 3) {
			damaged := c.clone()
			if !panics(func() { r.damage(&damaged) }) {
				c = damaged
			}
		}
		before := c.clone()
		first := c.results()
		if !reflect.DeepEqual(c.clone(), before.clone()) {
			t.Fatalf("%v is changed to %v", before, c)
		}
		for name, x := range first {
			if x.e == api.OK {
				right[name]++
				continue
			}
			wrong[name]++
			for _, v := range x.values {
				if !isZero(v) {
					t.Fatalf("%v: %s returns %v with the error %d", c, name, v, x.e)
				}
			}
		}
		if second := c.results(); !reflect.DeepEqual(first, second) {
			t.Fatalf("%v: the results are %v, then %v", c, first, second)
		}
	}
	for name := range ordinary().results() {
		if wrong[name] < 100 || right[name] < 100 {
			t.Errorf("%s had %d errors, and none %d times", name, wrong[name], right[name])
		}
	}
}

// panics says whether f does: damage of what has been damaged before may find nothing to change.
func panics(f func()) (yes bool) {
	defer func() { yes = recover() != nil }()
	f()
	return false
}

// R4: a nil slice and an empty one are equal.
func TestNilAndEmpty(t *testing.T) {
	full := call{t: emptyTour(), proof: []api.Node{{}}}
	empty := full.clone()
	empty.t.Stops, empty.plan, empty.proof[0].Plan = []api.Stop{}, []int{}, []int{}
	for name, a := range full.ofTour() {
		b := empty.ofTour()[name]
		if a.e != api.OK || b.e != api.OK || !reflect.DeepEqual(a.values, b.values) {
			t.Errorf("%s returns %v, and for empty slices %v", name, a, b)
		}
	}
	if proved, e := haul.Proved(empty.t, empty.plan, empty.proof); !proved || e != api.OK {
		t.Error("Proved returns", proved, e)
	}
	for name, tour := range map[string]api.Tour{"no legs": {Legs: [][]api.Leg{}}, "no leg": {Legs: [][]api.Leg{{}}}} {
		if e := haul.Check(tour); e != api.ErrForm {
			t.Errorf("%s: Check returns %d", name, e)
		}
	}
	for _, proof := range [][]api.Node{nil, {}} {
		if proved, e := haul.Proved(empty.t, nil, proof); proved || e != api.OK {
			t.Error("without a node Proved returns", proved, e)
		}
	}
}

// spoil writes over all memory of a list.
func spoil[T any](list []T, with T) {
	list = list[:cap(list)]
	for i := range list {
		list[i] = with
	}
}

// R4: what is done to a result changes no argument, and no other result.
func TestResultsHaveTheirOwnMemory(t *testing.T) {
	c := ordinary()
	want := c.results()
	stays, _, _ := haul.Run(c.t, c.plan)
	spoil(stays, api.Stay{Done: -7})
	best, _, _ := haul.Best(c.t)
	spoil(best, -7)
	read, _, _ := haul.Read(c.text)
	for i, row := range read.Legs {
		spoil(row, api.Leg{Minutes: -7})
		for _, other := range read.Legs[i+1:] {
			if slices.Contains(other, api.Leg{Minutes: -7}) {
				t.Error("rows of legs share memory")
			}
		}
	}
	spoil(read.Legs, nil)
	spoil(read.Stops, api.Stop{Work: -7})
	proof, _ := haul.Prove(c.t)
	for i, node := range proof {
		spoil(node.Plan, -7)
		for _, other := range proof[i+1:] {
			if slices.Contains(other.Plan, -7) {
				t.Error("plans of nodes share memory")
			}
		}
	}
	spoil(proof, api.Node{})
	if !reflect.DeepEqual(c, ordinary()) || !reflect.DeepEqual(c.results(), want) {
		t.Error("a result shares memory with an argument")
	}
}

// P1: the calls with the most work come to an end: all plans of as many stops as there may be are possible.
func TestGreatestWork(t *testing.T) {
	tour := easyTour(8)
	tour.Bait, tour.Tank = 7, 100000
	tour.Stops[0].Worth = 1000000
	plan := []int{7, 6, 5, 4, 3, 2, 1}
	for name, r := range (call{t: tour, plan: plan, proof: make([]api.Node, 200000)}).ofTour() {
		if want := map[string]api.Errno{"Prove": api.ErrFull}[name]; r.e != want {
			t.Errorf("%s returns %d", name, r.e)
		}
	}
	for name, r := range (call{t: tour, plan: slices.Repeat([]int{0}, 1000000)}).ofTour() {
		if want := map[string]api.Errno{"Run": api.ErrExists, "Bound": api.ErrExists, "Proved": api.ErrExists, "Late": api.ErrExists, "Prove": api.ErrFull}[name]; r.e != want {
			t.Errorf("with a long plan %s returns %d", name, r.e)
		}
	}
}
