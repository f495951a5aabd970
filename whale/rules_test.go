package whale_test

import (
	"math"
	"reflect"
	"slices"
	"strings"
	"testing"

	"homarus/api"
	"homarus/whale"
)

// call is arguments for all functions of the package.
type call struct {
	b              api.Bay
	w              api.Whales
	f              api.Fleet
	l              []api.Report
	ropes          []api.Rope
	n, guard, pull int
	day, to        int
	cells          []api.Cell
	hear           int
	marks          []string
	piece          string
}

// results are what the functions of the package return, by their names.
type results map[string]result

type result struct {
	values []any
	e      api.Errno
}

// results calls each function.
func (c call) results() results {
	all := results{}
	add := func(name string, e api.Errno, values ...any) { all[name] = result{values, e} }
	add("Check", whale.Check(c.b, c.w))
	x, rows, e := whale.Reach(c.b, c.w, c.n, c.day)
	add("Reach", e, x, rows)
	shut, e := whale.Shut(c.b, c.w, c.guard, c.day)
	add("Shut", e, shut)
	add("CheckRopes", whale.CheckRopes(c.f, c.ropes))
	met, e := whale.Meet(c.b, c.w, c.f, c.l, c.day)
	add("Meet", e, met)
	danger, e := whale.Danger(c.b, c.w, c.f, c.l, c.ropes, c.pull, c.day)
	add("Danger", e, danger)
	calls, e := whale.Haul(c.b, c.w, c.f, c.l, c.ropes, c.pull, c.day, c.to)
	add("Haul", e, calls)
	codes, e := whale.Codes(c.b, c.cells, c.hear)
	add("Codes", e, codes)
	owners, e := whale.Owners(c.marks, c.piece)
	add("Owners", e, owners)
	short, e := whale.Short(c.marks)
	add("Short", e, short)
	return all
}

// clone returns the arguments with memory of their own.
func (c call) clone() call {
	c.b.Lines = slices.Clone(c.b.Lines)
	for i, line := range c.b.Lines {
		c.b.Lines[i] = slices.Clone(line)
	}
	c.b.Customs, c.f.Licences, c.f.Tags = slices.Clone(c.b.Customs), slices.Clone(c.f.Licences), slices.Clone(c.f.Tags)
	c.w.Sights, c.l, c.ropes, c.cells, c.marks = slices.Clone(c.w.Sights), slices.Clone(c.l), slices.Clone(c.ropes), slices.Clone(c.cells), slices.Clone(c.marks)
	return c
}

// ordinary is arguments without an error.
func ordinary() call {
	b := exampleBay()
	b.Gangs, b.Lines = 2, [][]int{{3, 4, 5, 6}}
	b.Customs = []api.Custom{{Line: 0, Rows: span(0, 3), Days: span(0, 12), Shift: 2}}
	return call{
		b: b, w: exampleWhales(), f: exampleFleet(), l: exampleReports(), ropes: exampleRopes(),
		guard: 1, pull: 800, day: 11, to: 14, cells: line(0, 2, 4), hear: 2, marks: []string{"abc", "cbd"}, piece: "bc",
	}
}

// any number, most of them at the edge of something.
func (r random) any() int {
	few := []int{math.MinInt, math.MinInt + 1, -2, -1, 0, 1, 2, 3, 4, 5, 6, 9, 10, 40, 41, 50, 51, 200, 201, 5000, 5001, 36499, 36500, math.MaxInt32, math.MaxInt - 1, math.MaxInt}
	if r.Intn(3) == 0 {
		return r.in(0, 20)
	}
	return few[r.Intn(len(few))]
}

// anyText returns a string, most often no mark.
func (r random) anyText() string {
	return []string{"", "a", "ab", "cb", "A", "a b", "\xff\x00", "ä", strings.Repeat("a", 12), strings.Repeat("a", 13)}[r.Intn(10)]
}

// damage changes something of the arguments to anything.
func (r random) damage(c *call) {
	sight := func() *api.Sight { return &c.w.Sights[r.Intn(len(c.w.Sights))] }
	report := func() *api.Report { return &c.l[r.Intn(len(c.l))] }
	rope := func() *api.Rope { return &c.ropes[r.Intn(len(c.ropes))] }
	cell := func() *api.Cell { return &c.cells[r.Intn(len(c.cells))] }
	for _, change := range []func(){
		func() { c.b.Wide = r.any() },
		func() { c.b.Deep = r.any() },
		func() { c.b.Gangs = r.any() },
		func() { c.b.Lines[0][r.Intn(4)] = r.any() },
		func() { c.b.Customs[0].Shift = r.any() },
		func() { c.w.Many = r.any() },
		func() { c.w.Speed = r.any() },
		func() { c.w.Sights = slices.Repeat(c.w.Sights, r.in(0, 21)) },
		func() { sight().Whale = r.any() },
		func() { sight().Day = r.any() },
		func() { sight().X.Lo = r.any() },
		func() { sight().X.Hi = r.any() },
		func() { sight().Rows = span(r.any(), r.any()) },
		func() { c.f.Licences[0].Gang = r.any() },
		func() { c.f.Tags[r.Intn(3)] = r.any() },
		func() { c.f.Tags = slices.Repeat(c.f.Tags, r.in(0, 14)) },
		func() { c.l = slices.Repeat(c.l, r.in(0, 67)) },
		func() { report().Tag = r.any() },
		func() { report().Day = r.any() },
		func() { report().Kind = r.any() },
		func() { report().X, report().Row = r.any(), r.any() },
		func() { c.ropes = slices.Repeat(c.ropes, r.in(0, 14)) },
		func() { rope().Kind = r.any() },
		func() { rope().Part = span(r.any(), r.any()) },
		func() { rope().Mark = r.anyText() },
		func() { c.n = r.any() },
		func() { c.guard = r.any() },
		func() { c.pull = r.any() },
		func() { c.day = r.any() },
		func() { c.to = r.any() },
		func() { c.cells = slices.Repeat(c.cells, r.in(0, 4)) },
		func() { cell().X = r.any() },
		func() { cell().Row = r.any() },
		func() { c.hear = r.any() },
		func() { c.marks = slices.Repeat(c.marks, r.in(0, 8)) },
		func() { c.marks[r.Intn(len(c.marks))] = r.anyText() },
		func() { c.piece = r.anyText() },
	} {
		if r.Intn(25) == 0 {
			change()
		}
	}
}

// isZero says whether a value is the zero value of its type, or a slice without items.
func isZero(v any) bool {
	x := reflect.ValueOf(v)
	return x.IsZero() || x.Kind() == reflect.Slice && x.Len() == 0
}

// P1, R3, R4, R5: for any arguments each call comes to an end, with zero values beside an error, and leaves its arguments as they were; R2, R6: and a second call says the same.
func TestAnyArguments(t *testing.T) {
	r := newRandom()
	wrong, right := map[string]int{}, map[string]int{}
	for range 6000 {
		c := ordinary()
		for range r.in(0, 3) {
			damaged := c.clone()
			if !panics(func() { r.damage(&damaged) }) {
				c = damaged
			}
		}
		before := c.clone()
		first := c.results()
		if !reflect.DeepEqual(c.clone(), before.clone()) {
			t.Fatalf("%v is changed to %v", before, c)
		}
		for name, x := range first {
			if x.e == api.OK {
				right[name]++
				continue
			}
			wrong[name]++
			for _, v := range x.values {
				if !isZero(v) {
					t.Fatalf("%v: %s returns %v with the error %d", c, name, v, x.e)
				}
			}
		}
		if second := c.results(); !reflect.DeepEqual(first, second) {
			t.Fatalf("%v: the results are %v, then %v", c, first, second)
		}
	}
	for name := range ordinary().results() {
		if wrong[name] < 100 || right[name] < 100 {
			t.Errorf("%s had %d errors, and none %d times", name, wrong[name], right[name])
		}
	}
}

// panics says whether f does: damage of what has been damaged before may find nothing to change.
func panics(f func()) (yes bool) {
	defer func() { yes = recover() != nil }()
	f()
	return false
}

// R4: a nil slice and an empty one are equal.
func TestNilAndEmpty(t *testing.T) {
	none := call{b: api.Bay{Wide: 3, Deep: 2, Gangs: 1}, w: api.Whales{Many: 1}, pull: 1, piece: "a"}
	empty := none
	empty.b.Lines, empty.b.Customs, empty.w.Sights = [][]int{}, []api.Custom{}, []api.Sight{}
	empty.f.Licences, empty.f.Tags, empty.l, empty.ropes = []api.Licence{}, []int{}, []api.Report{}, []api.Rope{}
	empty.cells, empty.marks = []api.Cell{}, []string{}
	want := empty.results()
	for name, a := range none.results() {
		b := want[name]
		same := reflect.DeepEqual(a.values, b.values) || len(a.values) == 1 && isZero(a.values[0]) && isZero(b.values[0])
		if a.e != b.e || a.e != api.OK && name != "Short" || !same {
			t.Errorf("%s returns %v, and for empty slices %v", name, a, b)
		}
	}
}

// spoil writes over all memory of a list.
func spoil[T any](list []T, with T) {
	list = list[:cap(list)]
	for i := range list {
		list[i] = with
	}
}

// R4: what is done to a result changes no argument, and no other result.
func TestResultsHaveTheirOwnMemory(t *testing.T) {
	c := ordinary()
	want := c.results()
	shut, _ := whale.Shut(c.b, c.w, c.guard, c.day)
	for i, row := range shut {
		spoil(row, one(-7))
		for _, other := range shut[i+1:] {
			if slices.Contains(other, one(-7)) {
				t.Error("rows of Shut share memory")
			}
		}
	}
	spoil(shut, nil)
	met, _ := whale.Meet(c.b, c.w, c.f, c.l, c.day)
	spoil(met, api.Meeting{Tag: -7})
	danger, _ := whale.Danger(c.b, c.w, c.f, c.l, c.ropes, c.pull, c.day)
	spoil(danger, api.Meeting{Tag: -7})
	calls, _ := whale.Haul(c.b, c.w, c.f, c.l, c.ropes, c.pull, c.day, c.to)
	spoil(calls, api.Call{Tag: -7})
	codes, _ := whale.Codes(c.b, c.cells, c.hear)
	spoil(codes, -7)
	owners, _ := whale.Owners(c.marks, c.piece)
	spoil(owners, -7)
	if !reflect.DeepEqual(c, ordinary()) || !reflect.DeepEqual(c.results(), want) {
		t.Error("a result shares memory with an argument")
	}
}

// P1: calls with much work come to an end: very long lists, and as many whales, traps, days and cells as can be.
func TestGreatestWork(t *testing.T) {
	b := api.Bay{Wide: 200, Deep: 20, Gangs: 6, Lines: slices.Repeat([][]int{slices.Repeat([]int{100}, 20)}, 5)}
	b.Customs = slices.Repeat([]api.Custom{{Line: 4, Rows: span(0, 19), Days: span(0, 364), Shift: -1}}, 30)
	c := call{b: b, w: api.Whales{Many: 6, Speed: 200}, guard: 50, pull: 1, day: 36440, to: 36499, hear: 200, piece: strings.Repeat("a", 12)}
	for i := range api.MaxSights {
		c.w.Sights = append(c.w.Sights, seen(i%6, i*900, span(i, 199), span(i%20, 19)))
	}
	c.f.Licences = slices.Repeat([]api.Licence{{Master: -1}}, 12)
	for i := range api.MaxTraps {
		c.f.Tags = append(c.f.Tags, i%12)
		c.ropes = append(c.ropes, weak(i+1, 5000))
	}
	for i := range api.MaxReports {
		c.l = append(c.l, set(i%40, 36499-i/40, 199-i%40, i%20))
	}
	c.cells = slices.Repeat([]api.Cell{{X: 199, Row: 19}}, 9)
	for i := range api.MaxLicences {
		c.marks = append(c.marks, strings.Repeat("a", 11)+string(rune('a'+i)))
	}
	for name, x := range c.results() {
		want := map[string]api.Errno{"Short": api.OK}[name]
		if x.e != want {
			t.Errorf("%s returns %d", name, x.e)
		}
	}
	long := call{b: exampleBay(), w: api.Whales{Sights: make([]api.Sight, 1000000)}, ropes: make([]api.Rope, 1000000), cells: make([]api.Cell, 1000000), marks: make([]string, 1000000), piece: strings.Repeat("a", 1000000)}
	for name, x := range long.results() {
		want := api.ErrFull
		if name == "CheckRopes" {
			want = api.ErrForm
		}
		if x.e != want {
			t.Errorf("%s returns %d for a long list", name, x.e)
		}
	}
	if list, e := whale.Owners(nil, long.piece); list != nil || e != api.ErrForm {
		t.Error("Owners returns", list, e)
	}
}
