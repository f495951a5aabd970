package ground_test

import (
	"math"
	"reflect"
	"slices"
	"testing"

	"homarus/api"
	"homarus/ground"
)

// clone returns the arguments with memory of their own.
func (c call) clone() call {
	c.b.Lines = slices.Clone(c.b.Lines)
	for i, line := range c.b.Lines {
		c.b.Lines[i] = slices.Clone(line)
	}
	c.b.Customs, c.f.Licences, c.f.Tags, c.l = slices.Clone(c.b.Customs), slices.Clone(c.f.Licences), slices.Clone(c.f.Tags), slices.Clone(c.l)
	return c
}

// ordinary is arguments without an error.
func ordinary() call {
	return call{b: exampleBay(), f: exampleFleet(), l: exampleReports(), day: 17, tag: 2, x: span(2, 7), row: 1, paperText: examplePaper}
}

// any number, most of them at the edge of something.
func (r random) any() int {
	few := []int{math.MinInt, math.MinInt + 1, -201, -200, -2, -1, 0, 1, 2, 3, 4, 5, 6, 7, 12, 13, 20, 21, 40, 41, 200, 201, 364, 365, 36499, 36500, math.MaxInt32, math.MaxInt - 1, math.MaxInt}
	if r.Intn(4) == 0 {
		return r.in(-5, 400)
	}
	return few[r.Intn(len(few))]
}

func (r random) anySpan() api.Span { return span(r.any(), r.any()) }

func (r random) anyReport() api.Report {
	return api.Report{Tag: r.any(), Day: r.any(), Kind: r.any(), X: r.any(), Row: r.any()}
}

// damage changes something of the arguments to anything.
func (r random) damage(c *call) {
	for _, change := range []func(){
		func() { c.b.Wide = r.any() },
		func() { c.b.Deep = r.any() },
		func() { c.b.Gangs = r.any() },
		func() { c.b.Lines[r.Intn(2)][r.Intn(2)] = r.any() },
		func() { c.b.Lines[r.Intn(2)] = make([]int, r.Intn(4)) },
		func() { c.b.Lines = c.b.Lines[:r.Intn(2)] },
		func() { c.b.Customs[r.Intn(2)].Line = r.any() },
		func() { c.b.Customs[r.Intn(2)].Rows = r.anySpan() },
		func() { c.b.Customs[r.Intn(2)].Days = r.anySpan() },
		func() { c.b.Customs[r.Intn(2)].Shift = r.any() },
		func() { c.b.Customs = slices.Repeat(c.b.Customs, r.in(0, 20)) },
		func() { c.f.Licences[r.Intn(3)].Gang = r.any() },
		func() { c.f.Licences[r.Intn(3)].Most = r.any() },
		func() { c.f.Licences[r.Intn(3)].Master = r.any() },
		func() { c.f.Licences[r.Intn(3)].Days = r.anySpan() },
		func() { c.f.Licences = slices.Repeat(c.f.Licences, r.in(0, 6)) },
		func() { c.f.Tags[r.Intn(4)] = r.any() },
		func() { c.f.Tags = slices.Repeat(c.f.Tags, r.in(0, 12)) },
		func() { c.l[r.Intn(len(c.l))] = r.anyReport() },
		func() { c.l = slices.Repeat(c.l, r.in(1, 60)) },
		func() { c.l = append(c.l, set(0, 12, r.any(), r.any())) },
		func() { c.day, c.tag = r.any(), r.any() },
		func() { c.x, c.row = r.anySpan(), r.any() },
		func() { c.paperText = r.changedText(c.paperText) },
		func() { c.paperText = string([]byte{0, 255, 10, 32}) + c.paperText },
	} {
		if r.Intn(25) == 0 {
			change()
		}
	}
}

// isZero says whether a value is the zero value of its type, or a slice without items.
func isZero(v any) bool {
	x := reflect.ValueOf(v)
	return x.IsZero() || x.Kind() == reflect.Slice && x.Len() == 0
}

// P1, R3, R4, R5: for any arguments each call comes to an end, with zero values beside an error, and leaves its arguments as they were; R2, R6: and a second call says the same.
func TestAnyArguments(t *testing.T) {
	r := newRandom()
	wrong, right := map[string]int{}, map[string]int{}
	for range 6000 {
		c := ordinary()
		for range r.in(0, 3) {
			damaged := c.clone()
			if !panics(func() { r.damage(&damaged) }) {
				c = damaged
			}
		}
		before := c.clone()
		first := c.results()
		if !reflect.DeepEqual(c.clone(), before.clone()) {
			t.Fatalf("%v is changed to %v", before, c)
		}
		for name, x := range first {
			if x.e == api.OK {
				right[name]++
				continue
			}
			wrong[name]++
			for _, v := range x.values {
				if !isZero(v) {
					t.Fatalf("%v: %s returns %v with the error %d", c, name, v, x.e)
				}
			}
		}
		if second := c.results(); !reflect.DeepEqual(first, second) {
			t.Fatalf("%v: the results are %v, then %v", c, first, second)
		}
	}
	for name := range ordinary().results() {
		if wrong[name] < 100 || right[name] < 100 {
			t.Errorf("%s had %d errors, and none %d times", name, wrong[name], right[name])
		}
	}
}

// panics says whether f does: damage of what has been damaged before may find nothing to change.
func panics(f func()) (yes bool) {
	defer func() { yes = recover() != nil }()
	f()
	return false
}

// R4: a nil slice and an empty one are equal.
func TestNilAndEmpty(t *testing.T) {
	full := call{b: api.Bay{Wide: 3, Deep: 2, Gangs: 1}, x: span(0, 2), f: api.Fleet{Licences: []api.Licence{{Master: -1}}, Tags: []int{0}}}
	empty := full.clone()
	empty.b.Lines, empty.b.Customs, empty.l = [][]int{}, []api.Custom{}, []api.Report{}
	for name, a := range full.results() {
		b := empty.results()[name]
		same := reflect.DeepEqual(a.values, b.values) || len(a.values) == 1 && isZero(a.values[0]) && isZero(b.values[0])
		if a.e != api.OK || b.e != api.OK || !same {
			t.Errorf("%s returns %v, and for empty slices %v", name, a, b)
		}
	}
	if e := ground.CheckFleet(exampleBay(), api.Fleet{Licences: []api.Licence{}, Tags: []int{}}); e != api.OK {
		t.Error("CheckFleet returns", e)
	}
	if e := ground.Check(changedBay(func(b *api.Bay) { b.Lines = [][]int{} })); e != api.ErrForm {
		t.Error("Check returns", e)
	}
}

// spoil writes over all memory of a list.
func spoil[T any](list []T, with T) {
	list = list[:cap(list)]
	for i := range list {
		list[i] = with
	}
}

// R4: what is done to a result changes no argument, and no other result.
func TestResultsHaveTheirOwnMemory(t *testing.T) {
	c := ordinary()
	want := c.results()
	for _, day := range []int{0, 17} { // on the day 0 the lines are those of the bay
		first, _ := ground.Lines(c.b, day)
		second, _ := ground.Lines(c.b, day)
		first[0][0], first[0][1] = -7, -7
		if slices.Contains(first[1], -7) || slices.Contains(second[0], -7) {
			t.Error("lines share memory")
		}
		first[1][0], first[1][1] = -7, -7
		spoil(first, nil)
	}
	where, _ := ground.Where(c.b, c.day, c.x, c.row)
	spoil(where, -7)
	changes, _ := ground.Changes(c.b, 6, 0)
	spoil(changes, -7)
	sorted := trueBook(c.l)
	book, _ := ground.Book(c.b, c.f, sorted)
	spoil(book, cut(3, 3))
	if !slices.Equal(sorted, trueBook(c.l)) {
		t.Error("a book shares memory with the reports")
	}
	faults, _ := ground.Faults(c.b, c.f, c.l, 56)
	spoil(faults, api.Fault{})
	read, _, _ := ground.Read(c.b, c.f, c.paperText)
	spoil(read, cut(3, 3))
	if !reflect.DeepEqual(c, ordinary()) || !reflect.DeepEqual(c.results(), want) {
		t.Error("a result shares memory with an argument")
	}
}

// P1: the calls with the most work come to an end.
func TestGreatestWork(t *testing.T) {
	b, f := largeBay(), largestFleet()
	b.Customs = slices.Repeat([]api.Custom{{Line: 4, Rows: span(0, 19), Days: span(0, 364), Shift: -1}}, 30)
	var l []api.Report
	for i := range api.MaxReports {
		l = append(l, set(i%40, 36499-i/40, 199-i%40, i%20))
	}
	c := call{b: b, f: f, l: l, day: 36499, tag: 39, x: span(0, 199), row: 19}
	for name, r := range c.results() {
		if r.e != api.OK {
			t.Errorf("%s returns %d", name, r.e)
		}
	}
}
