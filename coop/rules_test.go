package coop_test

import (
	"math"
	"reflect"
	"slices"
	"strings"
	"testing"

	"homarus/api"
	"homarus/coop"
)

// call is arguments for all functions of the package.
type call struct {
	c              api.Coop
	d              api.Deal
	deals          []api.Deal
	amount         int
	weights, votes []int
	need           int
	n              int
	claims         []api.Claim
	text           string
}

// ordinary is arguments without an error.
func ordinary() call {
	c := exampleCoop()
	c.Accounts[0].Season, c.Accounts[1].Season = 10001, 5000
	return call{
		c: c, d: slip(0, 10001), deals: []api.Deal{slip(0, 10001), fuel(1, 30), draw(0, 99999), bonus(100)}, amount: 100,
		weights: []int{3, 2, 2}, votes: votes("y??"), need: 500000,
		n: 3, claims: []api.Claim{claim(0, 1, 100), claim(1, 2, 70), claim(2, 0, 20)}, text: example,
	}
}

// clone returns the arguments with memory of their own.
func (c call) clone() call {
	c.c = cloneCoop(c.c)
	c.deals, c.weights, c.votes, c.claims = slices.Clone(c.deals), slices.Clone(c.weights), slices.Clone(c.votes), slices.Clone(c.claims)
	return c
}

// result is all results of a function.
type result struct {
	values []any
	e      api.Errno
}

// results calls each function.
func (c call) results() map[string]result {
	all := map[string]result{}
	add := func(name string, e api.Errno, values ...any) { all[name] = result{values, e} }
	add("Check", coop.Check(c.c))
	surplus, e := coop.Surplus(c.c)
	add("Surplus", e, surplus)
	after, e := coop.Do(c.c, c.d)
	add("Do", e, after)
	after, errors, e := coop.Run(c.c, c.deals)
	add("Run", e, after, errors)
	shares, e := coop.Shares(c.c, c.amount)
	add("Shares", e, shares)
	verdict, e := coop.Decide(c.weights, c.votes, c.need)
	add("Decide", e, verdict)
	swings, e := coop.Swing(c.weights, c.votes, c.need)
	add("Swing", e, swings)
	payments, e := coop.Settle(c.n, c.claims)
	add("Settle", e, payments)
	text, e := coop.Write(c.c, c.deals)
	add("Write", e, text)
	read, deals, row, e := coop.Read(c.text)
	if row > 0 && e == api.ErrForm {
		row = 0 // not a zero value, but right
	}
	add("Read", e, read, deals, row)
	return all
}

// any number, most of them at the edge of something.
func (r random) any() int {
	if r.Intn(4) == 0 {
		return r.in(0, 1000)
	}
	return r.of(math.MinInt, math.MinInt+1, -2, -1, 0, 1, 2, 3, 6, 7, 8, 9, 12, 13, 40, 41, 1000, 1001, 10001, 1000000, 1000001, most, most+1, math.MaxInt-1, math.MaxInt)
}

// damage changes something of the arguments to anything.
func (r random) damage(c *call) {
	a := &c.c.Accounts[r.Intn(len(c.c.Accounts))]
	changes := []func(){
		func() { c.c.Rates.Fee = r.any() },
		func() { c.c.Rates.Interest = r.any() },
		func() { c.c.Rates.Price = r.any() },
		func() { c.c.Rates.Credit = r.any() },
		func() { a.Balance = r.any() },
		func() { a.Debt = r.any() },
		func() { a.Season = r.any() },
		func() { c.c.Till = r.any() },
		func() { c.c.Accounts = slices.Repeat(c.c.Accounts, r.in(0, 7)) },
		func() { c.d = deal(r.any(), r.any(), r.any(), r.any()) },
		func() { c.d = deal(r.in(1, 8), r.in(0, 1), r.in(0, 1), r.any()) },
		func() { c.deals[r.Intn(4)] = deal(r.any(), r.any(), r.any(), r.any()) },
		func() { c.deals[r.Intn(4)] = deal(r.in(1, 8), r.in(0, 1), r.in(0, 1), r.any()) },
		func() { c.deals = slices.Repeat(c.deals, r.in(0, 60)) },
		func() { c.amount = r.any() },
		func() { c.weights[r.Intn(3)] = r.any() },
		func() { c.weights = slices.Repeat(c.weights, r.in(0, 5)) },
		func() { c.votes[r.Intn(3)] = r.any() },
		func() { c.votes = slices.Repeat(c.votes, r.in(0, 5)) },
		func() { c.need = r.any() },
		func() { c.n = r.any() },
		func() { c.claims[r.Intn(3)] = claim(r.any(), r.any(), r.any()) },
		func() { c.claims[r.Intn(3)] = claim(r.in(0, 2), r.in(0, 2), r.any()) },
		func() { c.claims = slices.Repeat(c.claims, r.in(0, 15)) },
		func() { c.text = r.changedText(c.text) },
		func() { c.text = string([]byte{0, 255, 10, 32}) + c.text },
		func() { c.text = strings.Repeat(c.text, r.in(0, 150)) },
	}
	for range r.in(1, 4) {
		changes[r.Intn(len(changes))]()
	}
}

// isZero says whether a value is the zero value of its type, or a slice without items.
func isZero(v any) bool {
	x := reflect.ValueOf(v)
	return x.IsZero() || x.Kind() == reflect.Slice && x.Len() == 0
}

// panics says whether f does: damage of what has been damaged before may find nothing to change.
func panics(f func()) (yes bool) {
	defer func() { yes = recover() != nil }()
	f()
	return false
}

// P1, R3, R4, R5: for any arguments each call comes to an end, with zero values beside an error, and leaves its arguments as they were; R2, R6: and a second call says the same.
func TestAnyArguments(t *testing.T) {
	r := newRandom()
	wrong, right := map[string]int{}, map[string]int{}
	for range 4000 {
		c := ordinary()
		for range r.in(0, 3) {
			if damaged := c.clone(); !panics(func() { r.damage(&damaged) }) {
				c = damaged
			}
		}
		before := c.clone()
		first := c.results()
		if !reflect.DeepEqual(c.clone(), before) {
			t.Fatalf("%v is changed to %v", before, c)
		}
		for name, x := range first {
			if x.e == api.OK {
				right[name]++
				continue
			}
			wrong[name]++
			if slices.ContainsFunc(x.values, func(v any) bool { return !isZero(v) }) {
				t.Fatalf("%v: %s returns %v with the error %d", c, name, x.values, x.e)
			}
		}
		if second := c.results(); !reflect.DeepEqual(first, second) {
			t.Fatalf("%v: the results are %v, then %v", c, first, second)
		}
	}
	for name := range ordinary().results() {
		if wrong[name] < 100 || right[name] < 100 {
			t.Errorf("%s had %d errors, and none %d times", name, wrong[name], right[name])
		}
	}
}

// R4: a nil slice and an empty one are equal.
func TestNilAndEmpty(t *testing.T) {
	none := ordinary()
	none.deals, none.claims = nil, nil
	empty := none.clone()
	empty.deals, empty.claims = []api.Deal{}, []api.Claim{}
	want := empty.results()
	for name, a := range none.results() {
		if b := want[name]; a.e != b.e || a.e != api.OK || !slices.EqualFunc(a.values, b.values, func(x, y any) bool { return isZero(x) && isZero(y) || reflect.DeepEqual(x, y) }) {
			t.Errorf("%s returns %v, and for empty slices %v", name, a, b)
		}
	}
	for _, accounts := range [][]api.Account{nil, {}} {
		if e := coop.Check(api.Coop{Accounts: accounts}); e != api.ErrShort {
			t.Errorf("Check returns %d", e)
		}
	}
	for _, list := range [][]int{nil, {}} {
		if _, e := coop.Decide(list, list, 0); e != api.ErrShort {
			t.Errorf("Decide returns %d", e)
		}
		if _, e := coop.Swing([]int{1}, list, 0); e != api.ErrForm {
			t.Errorf("Swing returns %d", e)
		}
	}
}

// spoil writes over all memory of a list.
func spoil[T any](list []T, with T) {
	list = list[:cap(list)]
	for i := range list {
		list[i] = with
	}
}

// R4: what is done to a result changes no argument, and no other result.
func TestResultsHaveTheirOwnMemory(t *testing.T) {
	c := ordinary()
	want := c.results()
	wrong := api.Account{Balance: -7}
	after, _ := coop.Do(c.c, c.d)
	spoil(after.Accounts, wrong)
	after, errors, _ := coop.Run(c.c, c.deals)
	spoil(after.Accounts, wrong)
	spoil(errors, -7)
	// Where nothing is done, the accounts are copied, too.
	for _, deals := range [][]api.Deal{nil, {draw(0, most)}} {
		after, _, _ = coop.Run(c.c, deals)
		spoil(after.Accounts, wrong)
	}
	shares, _ := coop.Shares(c.c, c.amount)
	spoil(shares, -7)
	swings, _ := coop.Swing(c.weights, c.votes, c.need)
	spoil(swings, -7)
	payments, _ := coop.Settle(c.n, c.claims)
	spoil(payments, claim(-7, -7, -7))
	read, deals, _, _ := coop.Read(c.text)
	spoil(read.Accounts, wrong)
	spoil(deals, api.Deal{Kind: -7})
	if !reflect.DeepEqual(c, ordinary()) || !reflect.DeepEqual(c.results(), want) {
		t.Error("a result shares memory with an argument")
	}
}

// P1: calls with much work come to an end.
func TestGreatestWork(t *testing.T) {
	const many = 1000000
	c := call{
		c: api.Coop{Accounts: make([]api.Account, many)}, deals: make([]api.Deal, many), weights: make([]int, many), votes: make([]int, many),
		n: 12, claims: make([]api.Claim, many), text: strings.Repeat("\n", many),
	}
	for name, x := range c.results() {
		if want := api.ErrFull; x.e != want && (name != "Read" || x.e != api.ErrLong) {
			t.Errorf("%s returns %d", name, x.e)
		}
	}
	c = call{
		c: api.Coop{Accounts: slices.Repeat([]api.Account{{Debt: most, Season: most}}, 12), Till: most}, d: bonus(most), deals: slices.Repeat([]api.Deal{fine(11, 10, most)}, 200), amount: most,
		weights: slices.Repeat([]int{1000000}, 12), votes: make([]int, 12), need: 999999, n: 12, claims: slices.Repeat([]api.Claim{claim(11, 10, most)}, 40), text: example,
	}
	for name, x := range c.results() {
		if x.e != api.OK {
			t.Errorf("%s returns %d", name, x.e)
		}
	}
}
