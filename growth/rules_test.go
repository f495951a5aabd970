package growth_test

import (
	"go/ast"
	"go/parser"
	"go/token"
	"math"
	"os"
	"reflect"
	"slices"
	"strconv"
	"strings"
	"testing"

	"homarus/api"
	"homarus/growth"
)

// call is arguments for all functions of the package.
type call struct {
	g                        api.Growth
	a                        api.Animal
	n                        api.Nursery
	days, larvae, herd       []api.Span
	edges                    []int
	store, heat, live, sizes api.Span
	size                     int
	text                     string
}

// result is all results of a function.
type result struct {
	values []any
	e      api.Errno
}

// results calls each function.
func (c call) results() map[string]result {
	all := map[string]result{"Check": {nil, growth.Check(c.g)}}
	add := func(name string, e api.Errno, values ...any) { all[name] = result{values, e} }
	heat, e := growth.Heat(c.g, c.days)
	add("Heat", e, heat)
	reach, e := growth.Reach(c.g, c.a, c.heat)
	add("Reach", e, reach)
	fits, e := growth.Fits(c.g, c.a, c.heat, c.sizes)
	add("Fits", e, fits)
	class, e := growth.Class(c.edges, c.size)
	add("Class", e, class)
	next, e := growth.Next(c.g, c.edges, c.herd, c.store, c.heat, c.live)
	add("Next", e, next)
	settle, e := growth.Settle(c.n, c.days, c.larvae)
	add("Settle", e, settle)
	text, e := growth.Write(c.g)
	add("Write", e, text)
	read, _, e := growth.Read(c.text)
	add("Read", e, read)
	return all
}

// clone returns the arguments with memory of their own.
func (c call) clone() call {
	c.g.Stages = slices.Clone(c.g.Stages)
	c.days, c.larvae, c.herd, c.edges = slices.Clone(c.days), slices.Clone(c.larvae), slices.Clone(c.herd), slices.Clone(c.edges)
	return c
}

// ordinary is arguments without an error.
func ordinary() call {
	edges := []int{400, 500, 560, 900}
	herd := []api.Span{one(100), span(10, 20), one(0)}
	days := []api.Span{span(130, 150), span(110, 130), span(90, 100)}
	larvae := []api.Span{span(100, 200), one(100), one(100)}
	return call{
		g: example(), a: api.Animal{Size: span(440, 441)}, n: bed(), days: days, larvae: larvae, herd: herd, edges: edges,
		heat: one(2200), live: one(api.Mil), sizes: span(500, 600), size: 450, text: table,
	}
}

// any number, most of them at the edge of something.
func (r random) any() int {
	few := []int{math.MinInt, math.MinInt + 1, -51, -50, -1, 0, 1, 2, 5, 12, 13, 400, 401, 2500, 2501, 2502, 100000, 100001, 1000000, 1000001, 1000000000, 1000000001, math.MaxInt32, math.MaxInt - 1, math.MaxInt}
	if r.Intn(4) == 0 {
		return r.in(-5, 3000)
	}
	return few[r.Intn(len(few))]
}

func (r random) anySpan() api.Span { return span(r.any(), r.any()) }

// damage changes something of the arguments to anything.
func (r random) damage(c *call) {
	spans := func(l *[]api.Span) { *l = slices.Repeat(append(*l, r.anySpan()), r.in(0, 110)) }
	for _, change := range []func(){
		func() { c.g.Base, c.g.Most = r.any(), r.any() },
		func() { c.g.Stages[r.Intn(len(c.g.Stages))].From = r.any() },
		func() { c.g.Stages[r.Intn(len(c.g.Stages))].Need = r.anySpan() },
		func() { c.g.Stages[r.Intn(len(c.g.Stages))].Step = r.anySpan() },
		func() { c.g.Stages[0].Need, c.heat = one(1), one(1000000) },
		func() { c.a = api.Animal{Size: r.anySpan(), Heat: r.anySpan()} },
		func() { c.n = api.Nursery{Low: r.any(), High: r.any(), Rate: r.any(), Room: r.any()} },
		func() { spans(&c.days) },
		func() { spans(&c.larvae) },
		func() { spans(&c.herd) },
		func() { c.edges[r.Intn(len(c.edges))] = r.any() },
		func() { c.edges = c.edges[:r.Intn(len(c.edges))] },
		func() { c.store, c.heat = r.anySpan(), r.anySpan() },
		func() { c.live, c.sizes, c.size = r.anySpan(), r.anySpan(), r.any() },
		func() { c.text = r.changedText(c.text) },
		func() { c.text = string([]byte{0, 255, 10, 32}) + c.text },
		func() { c.g = api.Growth{Stages: slices.Repeat(c.g.Stages, r.in(0, 5))} },
	} {
		if r.Intn(12) == 0 {
			change()
		}
		if len(c.edges) == 0 || len(c.g.Stages) == 0 {
			return
		}
	}
}

// P1, R3, R4, R5: for any arguments each call comes to an end, with zero values beside an error, and leaves its arguments as they were; R2, R6: and a second call says the same.
func TestAnyArguments(t *testing.T) {
	r := newRandom()
	wrong := map[string]bool{}
	for range 3000 {
		c := ordinary()
		r.damage(&c)
		before := c.clone()
		first := c.results()
		if !reflect.DeepEqual(c.clone(), before.clone()) {
			t.Fatalf("%v is changed to %v", before, c)
		}
		for name, x := range first {
			if x.e == api.OK {
				continue
			}
			wrong[name] = true
			for _, v := range x.values {
				if !reflect.ValueOf(v).IsZero() {
					t.Fatalf("%v: %s returns %v with the error %d", c, name, v, x.e)
				}
			}
		}
		if second := c.results(); !reflect.DeepEqual(first, second) {
			t.Fatalf("%v: the results are %v, then %v", c, first, second)
		}
	}
	if len(wrong) != len(ordinary().results()) {
		t.Error("only these have had an error:", wrong)
	}
}

// P1: the call with the most work comes to an end: all classes, all stages, and needs whose sums are all different.
func TestGreatestWork(t *testing.T) {
	g := api.Growth{Most: 2500}
	for i, apart := range []int{1, 13, 169, 2197, 0, 5} {
		g.Stages = append(g.Stages, api.Stage{From: i * 400, Need: span(75000+apart, 75000+9*apart), Step: span(0, 300)})
	}
	edges := make([]int, 21)
	for i := range edges {
		edges[i] = i * 125
	}
	list, e := growth.Next(g, edges, make([]api.Span, 20), one(0), span(0, 974000), one(0))
	if e != api.OK || len(list) != 21 {
		t.Error(list, e)
	}
}

// R4: a nil slice and an empty one are equal.
func TestNilAndEmpty(t *testing.T) {
	empty := []api.Span{}
	a, e := growth.Heat(example(), nil)
	b, f := growth.Heat(example(), empty)
	c, h := growth.Settle(bed(), nil, empty)
	d, i := growth.Settle(bed(), empty, nil)
	if a != b || e != f || c != d || h != i || h != api.OK {
		t.Error(a, e, b, f, c, h, d, i)
	}
	if e := growth.Check(api.Growth{Stages: []api.Stage{}}); e != api.ErrShort {
		t.Error(e)
	}
	if _, e := growth.Class([]int{}, 5); e != api.ErrShort {
		t.Error(e)
	}
}

// R4: what is done to a result changes no argument, and no other result.
func TestResultsHaveTheirOwnMemory(t *testing.T) {
	c := ordinary()
	want := c.results()
	reach, _ := growth.Reach(c.g, c.a, c.heat)
	next, _ := growth.Next(c.g, c.edges, c.herd, c.store, c.heat, c.live)
	read, _, _ := growth.Read(c.text)
	reach, next = reach[:cap(reach)], next[:cap(next)]
	read.Stages = read.Stages[:cap(read.Stages)]
	for i := range reach {
		reach[i] = api.Reach{Moults: -1}
	}
	for i := range next {
		next[i] = one(-1)
	}
	for i := range read.Stages {
		read.Stages[i] = api.Stage{From: -1}
	}
	if !reflect.DeepEqual(c, ordinary()) || !reflect.DeepEqual(c.results(), want) {
		t.Error("a result shares memory")
	}
}

// R2, R6: the package keeps nothing, and imports nothing by which the time, the environment or another package's state could be read.
func TestSourceKeepsNothing(t *testing.T) {
	allowed := []string{"homarus/api", "iter", "math/bits", "strconv", "strings"}
	files, err := os.ReadDir(".")
	if err != nil {
		t.Fatal(err)
	}
	for _, f := range files {
		if !strings.HasSuffix(f.Name(), ".go") || strings.HasSuffix(f.Name(), "_test.go") {
			continue
		}
		source, err := parser.ParseFile(token.NewFileSet(), f.Name(), nil, 0)
		if err != nil {
			t.Fatal(err)
		}
		for _, i := range source.Imports {
			if path, _ := strconv.Unquote(i.Path.Value); !slices.Contains(allowed, path) {
				t.Errorf("%s imports %s", f.Name(), path)
			}
		}
		for _, d := range source.Decls {
			if g, ok := d.(*ast.GenDecl); ok && g.Tok == token.VAR {
				t.Errorf("%s has a package variable", f.Name())
			}
		}
	}
}
