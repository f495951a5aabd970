package catch_test

import (
	"maps"
	"slices"
	"testing"

	"homarus/api"
	"homarus/catch"
	"homarus/growth"
)

// The chapter's section Terms, followed word by word for all that animals may truly be, and held against what the package says.

// truth is what an animal truly is.
type truth struct {
	size        int
	eggs, notch bool
}

// truths returns all that an animal may truly be.
func truths(c api.Caught) []truth {
	var list []truth
	for size := c.Size.Lo; size <= c.Size.Hi; size++ {
		for _, eggs := range maybe(c.Eggs) {
			for _, notch := range maybe(c.Notch) {
				list = append(list, truth{size, eggs, notch})
			}
		}
	}
	return list
}

// maybe returns what may be so by a verdict.
func maybe(verdict int) []bool {
	return map[int][]bool{y: {true}, n: {false}, o: {false, true}}[verdict]
}

// verdictOf returns the verdict on what is so in some truths, and not so in others.
func verdictOf(so []bool) int {
	switch {
	case !slices.Contains(so, false):
		return y
	case !slices.Contains(so, true):
		return n
	}
	return o
}

// trueReasons returns for which reasons an animal truly has to go back.
func trueReasons(g api.Gauge, c api.Caught, t truth) [5]bool {
	return [5]bool{t.size < g.Low, t.size > g.High, g.Eggs && t.eggs, g.Notch && t.notch, g.Soft && c.Shell == api.ShellSoft}
}

func trulyKept(g api.Gauge, c api.Caught, t truth) bool { return trueReasons(g, c, t) == [5]bool{} }

// alwaysKept says whether an animal may be kept, whatever it truly is.
func alwaysKept(g api.Gauge, c api.Caught) bool {
	return !slices.ContainsFunc(truths(c), func(t truth) bool { return !trulyKept(g, c, t) })
}

// P4.1, P4.6, P0: verdicts are what all truths together say.
func TestReasonsAreTrue(t *testing.T) {
	r := newRandom()
	var found [6][4]int
	for range 20000 {
		g, c := r.gauge(12), r.caught(12, r.in(0, 12))
		var keep []bool
		var reasons [5][]bool
		for _, truth := range truths(c) {
			keep = append(keep, trulyKept(g, c, truth))
			for i, so := range trueReasons(g, c, truth) {
				reasons[i] = append(reasons[i], so)
			}
		}
		want := make([]int, 5)
		for i := range want {
			want[i] = verdictOf(reasons[i])
			found[i][want[i]]++
		}
		found[5][verdictOf(keep)]++
		if l, e := catch.Reasons(g, c); !slices.Equal(l, want) || e != api.OK {
			t.Fatalf("Reasons(%v, %v) returns %v %d, not %v", g, c, l, e, want)
		}
		if k, e := catch.Keep(g, c); k != verdictOf(keep) || e != api.OK {
			t.Fatalf("Keep(%v, %v) returns %d %d, not %d", g, c, k, e, verdictOf(keep))
		}
	}
	for i, verdicts := range found {
		for verdict := y; verdict <= o; verdict++ {
			// Whether a shell is soft is always known.
			if verdicts[verdict] < 200 && !(i == 4 && verdict == o) {
				t.Errorf("the verdict %d on %d was found only %d times", verdict, i, verdicts[verdict])
			}
		}
	}
}

// P4.3, P4.7: in a valid trip nothing is kept that may have to go back; and a trip in which such an animal is kept is not valid.
func TestNothingIsKeptThatHasToGoBack(t *testing.T) {
	r := newRandom()
	held, refused := 0, 0
	for range 2000 {
		trip := r.trip(3, 5)
		if e := catch.CheckTrip(trip); e != api.OK {
			t.Fatalf("CheckTrip(%v) returns %d", trip, e)
		}
		l, _, _, _ := catch.Fates(trip)
		for _, c := range l {
			held++
			if !alwaysKept(trip.Gauge, c) {
				t.Fatalf("%v is kept in the trip %v", c, trip)
			}
		}
		for _, p := range trip.Pulls {
			for i, c := range p.Animals {
				before, want := p.Fates[i], api.OK
				if !alwaysKept(trip.Gauge, c) {
					want = api.ErrClash
					refused++
				}
				p.Fates[i] = kept
				if e := catch.CheckTrip(trip); e != want {
					t.Fatalf("CheckTrip(%v) returns %d, not %d", trip, e, want)
				}
				p.Fates[i] = before
			}
		}
	}
	if held < 500 || refused < 500 {
		t.Errorf("only %d animals were kept, and %d refused", held, refused)
	}
}

// classes returns some edges up to a size, not all of them at its ends.
func (r random) classes(most int) []int {
	edges := r.Perm(most + 1)[:r.in(2, 5)]
	slices.Sort(edges)
	return edges
}

// classOf returns the class of a size, -1 if it is in none.
func classOf(edges []int, size int) int {
	for i := range len(edges) - 1 {
		if edges[i] <= size && size < edges[i+1] {
			return i
		}
	}
	return -1
}

// allSizes returns all lists of true sizes that animals may have.
func allSizes(l []api.Caught) [][]int {
	all := [][]int{nil}
	for _, c := range l {
		var longer [][]int
		for _, sizes := range all {
			for size := c.Size.Lo; size <= c.Size.Hi; size++ {
				longer = append(longer, append(slices.Clone(sizes), size))
			}
		}
		all = longer
	}
	return all
}

// countedIn returns how many of the sizes are in each class.
func countedIn(edges, sizes []int) []int {
	numbers := make([]int, len(edges)-1)
	for _, size := range sizes {
		if i := classOf(edges, size); i >= 0 {
			numbers[i]++
		}
	}
	return numbers
}

// P4.2, P4.8, P0: for few animals the numbers by classes, of all true sizes, are between the ends of Counts, which are reached.
func TestCountsAreTrueAndReached(t *testing.T) {
	r := newRandom()
	for range 3000 {
		edges, l := r.classes(14), r.list(4, 12, 4)
		want := make([]api.Span, len(edges)-1)
		for n, sizes := range allSizes(l) {
			for i, number := range countedIn(edges, sizes) {
				if n == 0 {
					want[i] = one(number)
				}
				want[i] = span(min(want[i].Lo, number), max(want[i].Hi, number))
			}
		}
		if counts, e := catch.Counts(edges, l); !slices.Equal(counts, want) || e != api.OK {
			t.Fatalf("Counts(%v, %v) returns %v %d, not %v", edges, l, counts, e, want)
		}
	}
}

// trueWeights returns all weights that an animal of a size may have.
func trueWeights(bulk, size int) []int {
	down := size * size * size / bulk
	if size*size*size%bulk == 0 {
		return []int{down}
	}
	return []int{down, down + 1}
}

// P4.2, P4.8, P0: for few animals the weights, of all true sizes, and rounded down or up, are between the ends of Weight, which are reached.
func TestWeightsAreTrueAndReached(t *testing.T) {
	r := newRandom()
	for range 2000 {
		bulk, l := r.in(1, 300), r.list(4, 30, 4)
		sums := map[int]bool{0: true}
		for _, c := range l {
			longer := map[int]bool{}
			for size := c.Size.Lo; size <= c.Size.Hi; size++ {
				for _, weight := range trueWeights(bulk, size) {
					for sum := range sums {
						longer[sum+weight] = true
					}
				}
			}
			sums = longer
		}
		list := slices.Sorted(maps.Keys(sums))
		want := span(list[0], list[len(list)-1])
		if w, e := catch.Weight(bulk, l); w != want || e != api.OK {
			t.Fatalf("Weight(%d, %v) returns %v %d, not %v", bulk, l, w, e, want)
		}
	}
}

// P4.8: numbers and weights of many large animals are between the ends.
func TestManyAnimalsAreCounted(t *testing.T) {
	r := newRandom()
	for range 100 {
		edges, bulk := r.classes(2501), r.in(1, api.MaxBulk)
		l := r.list(600, 2500, 300)
		counts, e := catch.Counts(edges, l)
		weight, f := catch.Weight(bulk, l)
		if e != api.OK || f != api.OK {
			t.Fatalf("Counts returns %d, Weight %d", e, f)
		}
		for range 10 {
			var sizes []int
			sum := 0
			for _, c := range l {
				sizes = append(sizes, r.in(c.Size.Lo, c.Size.Hi))
				may := trueWeights(bulk, sizes[len(sizes)-1])
				sum += may[r.Intn(len(may))]
			}
			for i, number := range countedIn(edges, sizes) {
				if number < counts[i].Lo || number > counts[i].Hi {
					t.Fatalf("%d animals are in the class %d of %v, not %v", number, i, edges, counts[i])
				}
			}
			if sum < weight.Lo || sum > weight.Hi {
				t.Fatalf("%d animals weigh %d, not %v", len(l), sum, weight)
			}
		}
	}
}

// P4.3, P4.9: each animal was kept, went back, or died, once, in the order of the trip; and none that goes back loses its notch.
func TestNoneIsLost(t *testing.T) {
	r := newRandom()
	marked := 0
	for range 2000 {
		trip := r.trip(5, 6)
		want := map[int][]api.Caught{}
		for _, p := range trip.Pulls {
			for i, c := range p.Animals {
				want[p.Fates[i]] = append(want[p.Fates[i]], c)
			}
		}
		a, b, d, e := catch.Fates(trip)
		if e != api.OK || !slices.Equal(a, want[kept]) || !slices.Equal(b, want[back]) || !slices.Equal(d, want[dead]) {
			t.Fatalf("Fates(%v) returns %v %v %v %d", trip, a, b, d, e)
		}
		released, e := catch.Released(trip)
		if e != api.OK || len(released) != len(b) {
			t.Fatalf("Released(%v) returns %v %d, but %v went back", trip, released, e, b)
		}
		for i, c := range b {
			after := released[i]
			switch {
			case c.Eggs == y && after.Notch != y, c.Eggs != y && after.Notch != c.Notch, c.Notch == y && after.Notch != y:
				t.Fatalf("%v goes back as %v", c, after)
			case after.Notch != c.Notch:
				marked++
			}
			if after.Notch = c.Notch; after != c {
				t.Fatalf("%v goes back as %v", c, released[i])
			}
		}
	}
	if marked < 300 {
		t.Errorf("only %d animals got a notch", marked)
	}
}

// T6: animals that are measured, and all live and grow, have numbers by classes within those of the herd that they may be.
func TestCaughtAndGrown(t *testing.T) {
	r := newRandom()
	for range 1000 {
		g := api.Growth{Most: r.in(20, 60), Stages: []api.Stage{
			{Need: r.span(5, 12), Step: r.span(0, 6)},
			{From: r.in(1, 40), Need: r.span(5, 12), Step: r.span(0, 6)},
		}}
		edges := append([]int{0}, r.classes(40)[1:]...)
		edges = append(edges, r.in(51, 70))
		l := r.list(6, 50, 8)
		store, heat := r.span(0, 12), r.span(0, 20)
		herd, e := catch.Counts(edges, l)
		next, f := growth.Next(g, edges, herd, store, heat, one(api.Mil))
		if e != api.OK || f != api.OK {
			t.Fatalf("Counts returns %d, Next %d", e, f)
		}
		for range 10 {
			numbers := make([]int, len(next))
			for _, c := range l {
				animal := api.Animal{Size: one(r.in(c.Size.Lo, c.Size.Hi)), Heat: one(r.in(store.Lo, store.Hi))}
				reach, e := growth.Reach(g, animal, one(r.in(heat.Lo, heat.Hi)))
				if e != api.OK {
					t.Fatalf("Reach returns %d", e)
				}
				sizes := reach[r.Intn(len(reach))].Size
				class := classOf(edges, r.in(sizes.Lo, sizes.Hi))
				if class < 0 {
					class = len(next) - 1
				}
				numbers[class]++
			}
			for i, number := range numbers {
				if number < next[i].Lo || number > next[i].Hi {
					t.Fatalf("of %v, %d are in the class %d of %v, not %v", l, number, i, edges, next[i])
				}
			}
		}
	}
}
