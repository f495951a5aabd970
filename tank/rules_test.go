package tank_test

import (
	"math"
	"reflect"
	"slices"
	"strings"
	"testing"

	"homarus/api"
	"homarus/tank"
)

// call is arguments of all functions.
type call struct {
	p                               api.Plant
	pump, from, hours, tank, deaths int
	lots                            []api.Lot
	log                             []api.Reading
	text                            string
}

// result is what a function returns.
type result struct {
	values []any
	e      api.Errno
}

// ordinary is arguments without an error.
func ordinary() call {
	log := []api.Reading{at(1, 890, 3, 60), at(2, 900, 2, 60)}
	return call{p: widePlant(), pump: 1, from: 1, hours: 3, tank: 1, deaths: 5, lots: exampleLots(), log: log, text: trueText(1, log)}
}

// clone returns the arguments with memory of their own.
func (c call) clone() call {
	c.p.Tanks, c.p.Pumps = slices.Clone(c.p.Tanks), slices.Clone(c.p.Pumps)
	c.lots, c.log = slices.Clone(c.lots), slices.Clone(c.log)
	return c
}

// results calls all functions.
func (c call) results() map[string]result {
	all := map[string]result{}
	all["Check"] = result{nil, tank.Check(c.p)}
	waters, e := tank.Run(c.p, c.pump, c.from, c.hours)
	all["Run"] = result{[]any{waters}, e}
	verdict, pump, from, e := tank.Holds(c.p, c.hours)
	all["Holds"] = result{[]any{verdict, pump, from}, e}
	room, e := tank.Room(c.p, c.tank, c.hours)
	all["Room"] = result{[]any{room}, e}
	dead, e := tank.Share(c.lots, c.deaths)
	all["Share"] = result{[]any{slices.Clip(dead)}, e}
	honest, e := tank.Honest(c.p, c.tank, c.log)
	all["Honest"] = result{[]any{honest}, e}
	text, e := tank.Write(c.tank, c.log)
	all["Write"] = result{[]any{text}, e}
	number, log, row, e := tank.Read(c.text)
	all["Read"] = result{[]any{number, log}, e}
	// The row alone may be there beside an error, if it is ErrForm.
	if row != 0 && e != api.ErrForm {
		all["Read"] = result{[]any{row}, e}
	}
	return all
}

// any number, most of them at the edge of something.
func (r random) any() int {
	few := []int{math.MinInt, math.MinInt + 1, -51, -50, -2, -1, 0, 1, 2, 3, 4, 6, 7, 20, 21, 48, 49, 400, 401, 1000, 10000, 10001, 100000, 100001, 10000000, 10000001, math.MaxInt32, math.MaxInt - 1, math.MaxInt}
	if r.Intn(3) == 0 {
		return r.in(0, 1000)
	}
	return few[r.Intn(len(few))]
}

func (r random) anySpan() api.Span { return span(r.any(), r.any()) }

// damage changes something of the arguments to anything.
func (r random) damage(c *call) {
	for _, change := range []func(){
		func() { c.p.Tanks[r.Intn(2)].Litres = r.any() },
		func() { c.p.Tanks[r.Intn(2)].Grams = r.any() },
		func() { c.p.Tanks[r.Intn(2)].Water.Oxygen = r.anySpan() },
		func() { c.p.Tanks[r.Intn(2)].Water.Ammonia.Hi = r.any() },
		func() { c.p.Tanks[r.Intn(2)].Water.Warm.Lo = r.any() },
		func() { c.p.Tanks = slices.Repeat(c.p.Tanks, r.in(0, 4)) },
		func() { c.p.Pumps[r.Intn(3)].Tank = r.any() },
		func() { c.p.Pumps[r.Intn(3)].Flow = r.any() },
		func() { c.p.Pumps = slices.Repeat(c.p.Pumps, r.in(0, 4)) },
		func() { c.p.Sea.Oxygen = r.anySpan() },
		func() { c.p.Sea.Warm.Hi = r.any() },
		func() { c.p.Use = r.anySpan() },
		func() { c.p.Waste.Hi = r.any() },
		func() { c.p.Air.Hi = r.any() },
		func() { c.p.Gain = r.anySpan() },
		func() { c.p.Least = r.any() },
		func() { c.p.Most = r.any() },
		func() { c.p.Warm = r.anySpan() },
		func() { c.pump = r.any() },
		func() { c.from = r.any() },
		func() { c.hours = r.any() },
		func() { c.tank = r.any() },
		func() { c.deaths = r.any() },
		func() { c.lots[r.Intn(3)].Strong = r.any() },
		func() { c.lots[r.Intn(3)].Weak = r.any() },
		func() { c.lots = slices.Repeat(c.lots, r.in(0, 9)) },
		func() { c.log[r.Intn(2)] = at(r.any(), r.any(), r.any(), r.any()) },
		func() { c.log[r.Intn(2)].Hour = r.any() },
		func() { c.log = slices.Repeat(c.log, r.in(0, 26)) },
		func() { c.text = r.changedText(c.text) },
		func() { c.text = string([]byte{0, 255, 10, 32}) + c.text },
		func() { c.text = strings.Repeat(c.text, r.in(0, 90)) },
	} {
		if r.Intn(25) == 0 {
			change()
		}
	}
}

// isZero says whether a value is the zero value of its type, or a slice without items.
func isZero(v any) bool {
	x := reflect.ValueOf(v)
	return x.IsZero() || x.Kind() == reflect.Slice && x.Len() == 0
}

// P1, R3, R4, R5: for any arguments each call comes to an end, with zero values beside an error, and leaves its arguments as they were; R2, R6: and a second call says the same.
func TestAnyArguments(t *testing.T) {
	r := newRandom()
	wrong, right := map[string]int{}, map[string]int{}
	for range 3000 {
		c := ordinary()
		for range r.in(0, 3) {
			damaged := c.clone()
			if !panics(func() { r.damage(&damaged) }) {
				c = damaged
			}
		}
		before := c.clone()
		first := c.results()
		if !reflect.DeepEqual(c.clone(), before.clone()) {
			t.Fatalf("%v is changed to %v", before, c)
		}
		for name, x := range first {
			if x.e == api.OK {
				right[name]++
				continue
			}
			wrong[name]++
			for _, v := range x.values {
				if !isZero(v) {
					t.Fatalf("%v: %s returns %v with the error %d", c, name, v, x.e)
				}
			}
		}
		if second := c.results(); !reflect.DeepEqual(first, second) {
			t.Fatalf("%v: the results are %v, then %v", c, first, second)
		}
	}
	for name := range ordinary().results() {
		if wrong[name] < 100 || right[name] < 100 {
			t.Errorf("%s had %d errors, and none %d times", name, wrong[name], right[name])
		}
	}
}

// panics says whether f does: damage of what has been damaged before may find nothing to change.
func panics(f func()) (yes bool) {
	defer func() { yes = recover() != nil }()
	f()
	return false
}

// R4: a nil slice and an empty one are equal.
func TestNilAndEmpty(t *testing.T) {
	full := call{p: oneTank(5, still(1, 2, 3)), pump: -1, hours: 2, text: "log 0\nend 0\n"}
	empty := full.clone()
	empty.p.Pumps, empty.lots, empty.log = []api.Pump{}, []api.Lot{}, []api.Reading{}
	for name, a := range full.results() {
		b := empty.results()[name]
		if a.e != api.OK || b.e != api.OK || !reflect.DeepEqual(a.values, b.values) {
			t.Errorf("%s returns %v, and for empty slices %v", name, a, b)
		}
	}
	for _, tanks := range [][]api.Tank{nil, {}} {
		if e := tank.Check(api.Plant{Tanks: tanks}); e != api.ErrShort {
			t.Errorf("Check returns %d", e)
		}
	}
}

// spoil writes over all memory of a list.
func spoil[T any](list []T, with T) {
	list = list[:cap(list)]
	for i := range list {
		list[i] = with
	}
}

// R4: what is done to a result changes no argument, and no other result.
func TestResultsHaveTheirOwnMemory(t *testing.T) {
	c := ordinary()
	want := c.results()
	list, _ := tank.Run(c.p, c.pump, c.from, c.hours)
	spoiled := still(-7, -7, -7)
	for hour, waters := range list {
		spoil(waters, spoiled)
		for _, other := range list[hour+1:] {
			if slices.Contains(other, spoiled) {
				t.Error("hours share memory")
			}
		}
	}
	spoil(list, nil)
	dead, _ := tank.Share(c.lots, c.deaths)
	spoil(dead, -7)
	_, log, _, _ := tank.Read(c.text)
	spoil(log, at(-7, 0, 0, 0))
	if !reflect.DeepEqual(c, ordinary()) || !reflect.DeepEqual(c.results(), want) {
		t.Error("a result shares memory with an argument")
	}
}

// P1: the calls with the most work come to an end.
func TestGreatestWork(t *testing.T) {
	p := changedPlant(func(p *api.Plant) {
		p.Tanks = slices.Repeat(p.Tanks, 6)
		p.Pumps = slices.Repeat([]api.Pump{{Tank: 5, Flow: 50}}, 8)
		p.Least, p.Most, p.Warm = 0, 100000, span(-50, 400)
	})
	if got, want := holds(p, 48), (holding{api.Sure, -1, -1, api.OK}); got != want {
		t.Errorf("Holds returns %v", got)
	}
	if n, e := tank.Room(p, 5, 48); n != 10000000 || e != api.OK {
		t.Errorf("Room returns %d %d", n, e)
	}
	log := hours(49, at(0, 100000, 0, 0))
	log[0] = at(0, 900, 0, 60)
	if n, e := tank.Honest(p, 5, log); n != 1 || e != api.OK {
		t.Errorf("Honest returns %d %d", n, e)
	}
	many := slices.Repeat(p.Tanks, 100000)
	if e := tank.Check(api.Plant{Tanks: many}); e != api.ErrFull {
		t.Errorf("Check returns %d", e)
	}
	if _, e := tank.Share(make([]api.Lot, 1000000), 0); e != api.ErrFull {
		t.Errorf("Share returns %d", e)
	}
	if _, e := tank.Write(0, make([]api.Reading, 1000000)); e != api.ErrFull {
		t.Errorf("Write returns %d", e)
	}
}
