package bay_test

import (
	"fmt"
	"math"
	"reflect"
	"slices"
	"strings"
	"testing"

	"homarus/api"
	"homarus/bay"
)

// call is arguments for all functions of the package.
type call struct {
	h     api.Harbour
	diary string
}

const ordinaryDiary = "seen 1 2 0; whale 0 9 9 1 1; day 1; haul 1; catch 1 900 900 m n n hard; catch 1 900 900 f y n hard; set 0 0 0; buy chick 1 500; drip chick 9; x; faults; danger; where 0; day 3"

// ordinary is arguments without an error.
func ordinary() call { return call{example(), diary(ordinaryDiary)} }

// clone returns the arguments with memory of their own.
func (c call) clone() call {
	h := &c.h
	h.Bay.Lines = slices.Clone(h.Bay.Lines)
	for i, line := range h.Bay.Lines {
		h.Bay.Lines[i] = slices.Clone(line)
	}
	h.Bay.Customs, h.Fleet.Licences, h.Fleet.Tags = slices.Clone(h.Bay.Customs), slices.Clone(h.Fleet.Licences), slices.Clone(h.Fleet.Tags)
	h.Ropes, h.Market = slices.Clone(h.Ropes), slices.Clone(h.Market)
	return c
}

// result is all results of a function.
type result struct {
	value any
	e     api.Errno
}

// results calls each function.
func (c call) results() map[string]result {
	all := map[string]result{"Check": {nil, bay.Check(c.h)}}
	said, e := bay.Run(c.h, c.diary)
	all["Run"] = result{said, e}
	desk, e := bay.Keep(c.h, c.diary)
	all["Keep"] = result{desk, e}
	told, e := bay.Report(c.h, c.diary)
	all["Report"] = result{told, e}
	return all
}

// any number, most of them at the edge of something.
func (r random) any() int {
	if r.rarely(4) {
		return r.in(0, 1000)
	}
	return r.of(math.MinInt, math.MinInt+1, -2, -1, 0, 1, 2, 3, 6, 7, 20, 21, 40, 41, 50, 51, 59, 60, 200, 201, 364, 365, 2500, 2501, 5000, 5001, 20000, 20001, 100000, 100001, math.MaxInt-1, math.MaxInt)
}

// damage changes something of the arguments to anything.
func (r random) damage(c *call) {
	h := &c.h
	numbers := []*int{
		&h.Bay.Wide, &h.Bay.Deep, &h.Bay.Gangs, &h.Speed, &h.Memory, &h.Gauge.Low, &h.Gauge.High, &h.Guard, &h.Pull, &h.Ahead, &h.Bay.Lines[r.Intn(2)][r.Intn(2)],
		&h.Bay.Customs[r.Intn(2)].Shift, &h.Bay.Customs[r.Intn(2)].Days.Hi, &h.Fleet.Licences[r.Intn(3)].Gang, &h.Fleet.Licences[r.Intn(3)].Most, &h.Fleet.Licences[r.Intn(3)].Master, &h.Fleet.Licences[r.Intn(3)].Days.Lo,
		&h.Fleet.Tags[r.Intn(4)], &h.Ropes[r.Intn(4)].Kind, &h.Ropes[r.Intn(4)].Part.Hi, &h.Market[r.Intn(3)].Low, &h.Market[r.Intn(3)].High, &h.Market[r.Intn(3)].Price,
	}
	changes := []func(){
		func() { *numbers[r.Intn(len(numbers))] = r.any() },
		func() { h.Bay.Lines = slices.Repeat(h.Bay.Lines, r.in(0, 3)) },
		func() { h.Bay.Customs = slices.Repeat(h.Bay.Customs, r.in(0, 20)) },
		func() { h.Fleet.Licences = slices.Repeat(h.Fleet.Licences, r.in(0, 5)) },
		func() {
			n := r.in(0, 12)
			h.Fleet.Tags, h.Ropes = slices.Repeat(h.Fleet.Tags, n), slices.Repeat(h.Ropes, n)
		},
		func() { h.Ropes = h.Ropes[:r.Intn(5)] },
		func() { h.Ropes[r.Intn(4)].Mark = []string{"", "abc", "\xff", "A", "abcdefghijklm"}[r.Intn(5)] },
		func() { h.Market = h.Market[:r.Intn(3)] },
		func() {
			h.Market[r.Intn(3)].Name = []string{"", "select", "Z", "abcdefghi", "\xff\x00", "other"}[r.Intn(6)]
		},
	}
	texts := []func(){
		func() { c.diary = c.diary[:r.Intn(len(c.diary))] },
		func() { c.diary = strings.Repeat(c.diary, r.in(0, 12)) },
		func() { c.diary = string([]byte{0, 255, 10, 32}) + c.diary },
		func() { c.diary = strings.Repeat("x", r.in(7700, 8000)) + c.diary },
		func() {
			lines := strings.SplitAfter(c.diary, "\n")
			slices.Reverse(lines)
			c.diary = strings.Join(lines, "")
		},
		func() {
			lines := strings.Split(c.diary, "\n")
			i := r.Intn(len(lines))
			lines[i] = r.changedLine(lines[i])
			c.diary = strings.Join(lines, "\n")
		},
	}
	for range r.in(1, 2) {
		if r.yes() {
			changes = texts
		}
		changes[r.Intn(len(changes))]()
	}
}

// isZero says whether a value is the zero value of its type, or there is none.
func isZero(v any) bool { return v == nil || reflect.ValueOf(v).IsZero() }

// panics says whether f does: damage of what has been damaged before may find nothing to change.
func panics(f func()) (yes bool) {
	defer func() { yes = recover() != nil }()
	f()
	return false
}

// P1, R3, R4, R5: for any arguments each call comes to an end, with zero values beside an error, and leaves its arguments as they were; R2, R6: and a second call says the same.
func TestAnyArguments(t *testing.T) {
	r := newRandom()
	wrong, right := map[string]int{}, map[string]int{}
	for range 4000 {
		c := ordinary()
		for range r.in(0, 3) {
			if damaged := c.clone(); !panics(func() { r.damage(&damaged) }) {
				c = damaged
			}
		}
		before := c.clone()
		first := c.results()
		if !reflect.DeepEqual(c.clone(), before) {
			t.Fatalf("%v is changed to %v", before, c)
		}
		for name, x := range first {
			if x.e == api.OK {
				right[name]++
				continue
			}
			wrong[name]++
			if !isZero(x.value) {
				t.Fatalf("%v: %s returns %v with the error %d", c, name, x.value, x.e)
			}
		}
		if second := c.results(); !reflect.DeepEqual(first, second) {
			t.Fatalf("%v: the results are %v, then %v", c, first, second)
		}
	}
	for name := range ordinary().results() {
		if wrong[name] < 100 || right[name] < 100 {
			t.Errorf("%s had %d errors, and none %d times", name, wrong[name], right[name])
		}
	}
}

// R4: a nil slice and an empty one are equal.
func TestNilAndEmpty(t *testing.T) {
	none := example()
	none.Bay.Gangs, none.Bay.Lines, none.Bay.Customs, none.Fleet, none.Ropes = 1, nil, nil, api.Fleet{}, nil
	empty := none
	empty.Bay.Lines, empty.Bay.Customs, empty.Ropes = [][]int{}, []api.Custom{}, []api.Rope{}
	empty.Fleet = api.Fleet{Licences: []api.Licence{}, Tags: []int{}}
	for _, lines := range []string{"", "set 0 0 0; whale 0 0 1 0 1; danger; faults; holder 0 0; day 9"} {
		a, b := call{none, diary(lines)}.results(), call{empty, diary(lines)}.results()
		for name := range a {
			if !reflect.DeepEqual(a[name], b[name]) || a[name].e != api.OK {
				t.Errorf("%s returns %v, and for empty slices %v", name, a[name], b[name])
			}
		}
	}
	for _, market := range [][]api.Grade{nil, {}} {
		if e := bay.Check(changed(example(), func(h *api.Harbour) { h.Market = market })); e != api.ErrShort {
			t.Errorf("Check returns %d", e)
		}
	}
}

// spoil writes over all memory of a list.
func spoil[T any](list []T, with T) {
	list = list[:cap(list)]
	for i := range list {
		list[i] = with
	}
}

// R4: what is done to a result changes no argument, and no other result.
func TestResultsHaveTheirOwnMemory(t *testing.T) {
	c := ordinary()
	want := c.results()
	first, _ := bay.Keep(c.h, c.diary)
	second, _ := bay.Keep(c.h, c.diary)
	spoil(first.Reports, api.Report{Kind: -7})
	spoil(first.Sights, api.Sight{Whale: -7})
	if !slices.Equal(first.Taken, second.Taken) || !slices.Equal(first.Events, second.Events) {
		t.Error("two lists of a desk share memory")
	}
	spoil(first.Taken, api.Taken{Fate: -7})
	spoil(first.Events, api.Event{Kind: -7})
	if len(first.Reports) == 0 || len(first.Sights) == 0 || len(first.Taken) == 0 || len(first.Events) == 0 {
		t.Errorf("the desk is %v", first)
	}
	if again := (result{second, api.OK}); !reflect.DeepEqual(again, want["Keep"]) || !reflect.DeepEqual(c, ordinary()) || !reflect.DeepEqual(c.results(), want) {
		t.Error("a result shares memory with an argument, or with another one")
	}
}

// great is the greatest harbour: all that a line may have to look at.
func great() api.Harbour {
	h := api.Harbour{Bay: api.Bay{Wide: 200, Deep: 20, Gangs: 6, Lines: make([][]int, 5)}, Speed: 1, Memory: 59, Gauge: api.Gauge{High: 2500}, Guard: 50, Pull: 1, Ahead: 59}
	for i := range h.Bay.Lines {
		h.Bay.Lines[i] = slices.Repeat([]int{200}, 20)
	}
	h.Bay.Customs = slices.Repeat([]api.Custom{{Rows: span(0, 19), Days: span(0, 364)}}, 30)
	h.Fleet.Licences = slices.Repeat([]api.Licence{{Most: 40, Master: 0, Days: span(0, 364)}}, 12)
	h.Fleet.Licences[0].Master = -1
	h.Fleet.Tags = slices.Repeat([]int{11}, 40)
	h.Ropes = slices.Repeat([]api.Rope{strong()}, 40)
	for i := range 8 {
		h.Market = append(h.Market, api.Grade{Name: strings.Repeat("z", i+1), Low: 1, High: 20000})
	}
	return h
}

// P1: calls with much work come to an end.
func TestGreatestWork(t *testing.T) {
	const many = 1000000
	wide := example()
	wide.Fleet.Tags = make([]int, many)
	for name, x := range (call{wide, "\n"}).results() {
		if x.e != api.ErrFull {
			t.Errorf("%s returns %d", name, x.e)
		}
	}
	for name, x := range (call{example(), strings.Repeat("\n", many)}).results() {
		if want := api.ErrLong; x.e != want && name != "Check" {
			t.Errorf("%s returns %d", name, x.e)
		}
	}
	lines := []string{}
	for tag := range 40 {
		lines = append(lines, fmt.Sprint("set ", tag, " 199 ", tag%20))
	}
	for i := range 40 {
		lines = append(lines, fmt.Sprint("whale ", min(i, 5), " 0 10 0 19"))
	}
	for i := range 20 {
		lines = append(lines, fmt.Sprint("seen ", i, " 190 19"))
	}
	h := great()
	for i, reply := range run(t, h, lines) {
		if reply != "ok" {
			t.Errorf("%s replies %s", lines[i], reply)
		}
	}
	if text := report(t, h, lines); strings.Count(text, "\n") != 1+40+2+8+1 {
		t.Errorf("the report is %q", text)
	}
}
