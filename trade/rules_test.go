package trade_test

import (
	"math"
	"reflect"
	"slices"
	"strings"
	"testing"

	"homarus/api"
	"homarus/trade"
)

// call is arguments for all functions of the package.
type call struct {
	m      []api.Grade
	g      api.Gauge
	x      api.Scaled
	slip   []api.Scaled
	ledger []api.Event
	orders []api.Order
	room   int
	quota  int
	traps  []int
	text   string
}

// ordinary is arguments without an error.
func ordinary() call {
	return call{
		m: exampleMarket(), g: anySize(), x: animalA(), slip: []api.Scaled{animalA(), animalB(), animalC()},
		ledger: append(exampleLedger(), buy(1, 3, 30), back(1, 1, 9)), orders: append(exampleOrders(), order(1, 1, 9)), room: 9,
		quota: 7, traps: []int{10, 5, 0, 5}, text: examplePaper + "buy select 3 30\n",
	}
}

// clone returns the arguments with memory of their own.
func (c call) clone() call {
	c.m, c.slip, c.ledger = slices.Clone(c.m), slices.Clone(c.slip), slices.Clone(c.ledger)
	c.orders, c.traps = slices.Clone(c.orders), slices.Clone(c.traps)
	return c
}

// result is all results of a function.
type result struct {
	values []any
	e      api.Errno
}

// results calls each function.
func (c call) results() map[string]result {
	all := map[string]result{}
	add := func(name string, e api.Errno, values ...any) { all[name] = result{values, e} }
	add("Check", trade.Check(c.m))
	add("CheckScaled", trade.CheckScaled(c.x))
	grades, refused, e := trade.Grades(c.m, c.x)
	add("Grades", e, grades, refused)
	pay, e := trade.Pay(c.m, c.x)
	add("Pay", e, pay)
	lines, without, cents, e := trade.Slip(c.m, c.g, c.slip)
	add("Slip", e, lines, without, cents)
	balances, e := trade.Book(c.m, c.ledger)
	add("Book", e, balances)
	chosen, sum, e := trade.Ship(c.m, c.ledger, c.orders, c.room)
	add("Ship", e, chosen, sum)
	boxes, e := trade.Share(c.quota, c.traps)
	add("Share", e, boxes)
	text, e := trade.Write(c.m, c.ledger)
	add("Write", e, text)
	read, row, e := trade.Read(c.m, c.text)
	if row > 0 && (e == api.ErrForm || e == api.ErrMissing) {
		row = 0 // not a zero value, but right
	}
	add("Read", e, read, row)
	return all
}

// any number, most of them at the edge of something.
func (r random) any() int {
	few := []int{math.MinInt, math.MinInt + 1, -2, -1, 0, 1, 2, 3, 4, 5, 6, 7, 40, 41, 200, 201, 450, 550, 900, 2500, 2501, 5000, 5001, 20000, 20001, 100000, 100001, 1000000, 1000001, 10000000, 10000001, math.MaxInt32, math.MaxInt - 1, math.MaxInt}
	if r.Intn(4) == 0 {
		return r.in(0, 1000)
	}
	return few[r.Intn(len(few))]
}

// spoiled changes something of an animal on a scale to anything.
func (r random) spoiled(x *api.Scaled) {
	fields := []*int{&x.Animal.Size.Lo, &x.Animal.Size.Hi, &x.Animal.Sex, &x.Animal.Eggs, &x.Animal.Notch, &x.Animal.Shell, &x.Grams.Lo, &x.Grams.Hi, &x.Weak}
	*fields[r.Intn(len(fields))] = r.any()
}

// damage changes something of the arguments to anything.
func (r random) damage(c *call) {
	changes := []func(){
		func() { c.m[r.Intn(3)].Name = []string{"", "select", "Z", "abcdefghi", "\xff\x00", "other"}[r.Intn(6)] },
		func() { c.m[r.Intn(3)].Low = r.any() },
		func() { c.m[r.Intn(3)].High = r.any() },
		func() { c.m[r.Intn(3)].Price = r.any() },
		func() { c.m = c.m[:r.Intn(len(c.m))] },
		func() { c.m = slices.Repeat(c.m, r.in(0, 4)) },
		func() { c.g = api.Gauge{Low: r.any(), High: r.any(), Eggs: true, Soft: r.yes()} },
		func() { r.spoiled(&c.x) },
		func() { r.spoiled(&c.slip[r.Intn(3)]) },
		func() { c.slip = slices.Repeat(c.slip, r.in(0, 25)) },
		func() { c.ledger[r.Intn(6)] = event(r.any(), r.any(), r.any(), r.any()) },
		func() { c.ledger = r.changedLedger(c.ledger) },
		func() { c.ledger = slices.Repeat(c.ledger, r.in(0, 40)) },
		func() { c.orders[r.Intn(4)] = order(r.any(), r.any(), r.any()) },
		func() { c.orders[r.Intn(4)].Count = r.any() },
		func() { c.orders = slices.Repeat(c.orders, r.in(0, 3)) },
		func() { c.room = r.any() },
		func() { c.quota = r.any() },
		func() { c.traps[r.Intn(4)] = r.any() },
		func() { c.traps = slices.Repeat(c.traps, r.in(0, 4)) },
		func() { c.text = r.changedText(c.text) },
		func() { c.text = string([]byte{0, 255, 10, 32}) + c.text },
		func() { c.text = strings.Repeat(c.text, r.in(0, 150)) },
	}
	for range r.in(1, 3) {
		changes[r.Intn(len(changes))]()
	}
}

// isZero says whether a value is the zero value of its type, or a slice without items.
func isZero(v any) bool {
	x := reflect.ValueOf(v)
	return x.IsZero() || x.Kind() == reflect.Slice && x.Len() == 0
}

// panics says whether f does: damage of what has been damaged before may find nothing to change.
func panics(f func()) (yes bool) {
	defer func() { yes = recover() != nil }()
	f()
	return false
}

// P1, R3, R4, R5: for any arguments each call comes to an end, with zero values beside an error, and leaves its arguments as they were; R2, R6: and a second call says the same.
func TestAnyArguments(t *testing.T) {
	r := newRandom()
	wrong, right := map[string]int{}, map[string]int{}
	for range 4000 {
		c := ordinary()
		for range r.in(0, 3) {
			if damaged := c.clone(); !panics(func() { r.damage(&damaged) }) {
				c = damaged
			}
		}
		before := c.clone()
		first := c.results()
		if !reflect.DeepEqual(c.clone(), before) {
			t.Fatalf("%v is changed to %v", before, c)
		}
		for name, x := range first {
			if x.e == api.OK {
				right[name]++
				continue
			}
			wrong[name]++
			if slices.ContainsFunc(x.values, func(v any) bool { return !isZero(v) }) {
				t.Fatalf("%v: %s returns %v with the error %d", c, name, x.values, x.e)
			}
		}
		if second := c.results(); !reflect.DeepEqual(first, second) {
			t.Fatalf("%v: the results are %v, then %v", c, first, second)
		}
	}
	for name := range ordinary().results() {
		if wrong[name] < 100 || right[name] < 100 {
			t.Errorf("%s had %d errors, and none %d times", name, wrong[name], right[name])
		}
	}
}

// R4: a nil slice and an empty one are equal.
func TestNilAndEmpty(t *testing.T) {
	none := call{m: exampleMarket(), g: anySize(), x: animalA()}
	empty := none
	empty.slip, empty.ledger, empty.orders, empty.traps = []api.Scaled{}, []api.Event{}, []api.Order{}, []int{}
	want := empty.results()
	for name, a := range none.results() {
		if b := want[name]; a.e != api.OK || b.e != api.OK || len(a.values) != len(b.values) || !slices.EqualFunc(a.values, b.values, func(x, y any) bool { return isZero(x) && isZero(y) || reflect.DeepEqual(x, y) }) {
			t.Errorf("%s returns %v, and for empty slices %v", name, a, b)
		}
	}
	for _, m := range [][]api.Grade{nil, {}} {
		if e := trade.Check(m); e != api.ErrShort {
			t.Errorf("Check returns %d", e)
		}
	}
}

// spoil writes over all memory of a list.
func spoil[T any](list []T, with T) {
	list = list[:cap(list)]
	for i := range list {
		list[i] = with
	}
}

// R4: what is done to a result changes no argument, and no other result.
func TestResultsHaveTheirOwnMemory(t *testing.T) {
	c := ordinary()
	want := c.results()
	grades, _, _ := trade.Grades(c.m, c.x)
	spoil(grades, -7)
	lines, _, _, _ := trade.Slip(c.m, c.g, c.slip)
	spoil(lines, api.Line{Count: one(-7)})
	balances, _ := trade.Book(c.m, c.ledger)
	spoil(balances, api.Balance{Dripped: -7})
	chosen, _, _ := trade.Ship(c.m, c.ledger, c.orders, c.room)
	spoil(chosen, -7)
	boxes, _ := trade.Share(c.quota, c.traps)
	spoil(boxes, -7)
	read, _, _ := trade.Read(c.m, c.text)
	spoil(read, api.Event{Kind: -7})
	if !reflect.DeepEqual(c, ordinary()) || !reflect.DeepEqual(c.results(), want) {
		t.Error("a result shares memory with an argument")
	}
}

// P1: calls with much work come to an end.
func TestGreatestWork(t *testing.T) {
	const many = 1000000
	c := call{m: make([]api.Grade, many), x: animalA()}
	for name, r := range c.results() {
		if r.e != api.ErrFull && name != "CheckScaled" && name != "Share" {
			t.Errorf("%s returns %d", name, r.e)
		}
	}
	c = call{m: manyGrades(8), g: anySize(), x: animalA(), slip: make([]api.Scaled, many), ledger: make([]api.Event, many), traps: make([]int, many), text: strings.Repeat("\n", many)}
	for name, want := range map[string]api.Errno{"Slip": api.ErrFull, "Book": api.ErrFull, "Ship": api.ErrFull, "Write": api.ErrFull, "Share": api.ErrFull, "Read": api.ErrLong} {
		if r := c.results()[name]; r.e != want {
			t.Errorf("%s returns %d, not %d", name, r.e, want)
		}
	}
	if _, _, e := trade.Ship(c.m, nil, make([]api.Order, many), 5); e != api.ErrFull {
		t.Errorf("Ship returns %d", e)
	}
	if boxes, e := trade.Share(5000, slices.Repeat([]int{40}, 12)); len(boxes) != 12 || e != api.OK {
		t.Errorf("Share returns %v %d", boxes, e)
	}
	wide := slices.Repeat([]api.Scaled{scaled(api.ShellHard, span(19800, 20000), o)}, 60)
	if lines, refused, _, e := trade.Slip(manyGrades(8), anySize(), wide); lines[0].Count != span(0, 60) || refused != span(0, 60) || e != api.OK {
		t.Errorf("Slip returns %v %v %d", lines, refused, e)
	}
}
