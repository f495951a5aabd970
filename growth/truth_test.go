package growth_test

import (
	"math/rand"
	"slices"
	"testing"

	"homarus/api"
	"homarus/growth"
)

// The truth of the chapter's section Terms, followed step by step, and held against what the package says.

// random makes values; it begins with the same number each time.
type random struct{ *rand.Rand }

func newRandom() random { return random{rand.New(rand.NewSource(1))} }

func (r random) in(low, high int) int { return low + r.Intn(high-low+1) }

func (r random) span(low, high int) api.Span {
	a, b := r.in(low, high), r.in(low, high)
	return span(min(a, b), max(a, b))
}

// part returns a span within another one.
func (r random) part(s api.Span) api.Span { return r.span(s.Lo, s.Hi) }

// growth returns a valid growth with sizes, needs and steps up to some numbers.
func (r random) growth(size, need, step int) api.Growth {
	g := api.Growth{Most: r.in(0, size)}
	from := 0
	for range r.in(1, 6) {
		g.Stages = append(g.Stages, api.Stage{From: from, Need: r.span(1, need), Step: r.span(0, step)})
		from += r.in(1, 1+size/3)
		if from > size {
			break
		}
	}
	return g
}

// changedText returns a text in which one byte is another one, is missing, or stands twice.
func (r random) changedText(text string) string {
	i := r.Intn(len(text))
	switch r.Intn(4) {
	case 0:
		return text[:i] + text[i+1:]
	case 1:
		return text[:i] + text[i:i+1] + text[i:]
	}
	const bytes = "0123456789- \nabdegmnost"
	return text[:i] + bytes[r.Intn(len(bytes)):][:1] + text[i+1:]
}

// state is how far an animal has truly grown.
type state struct{ moults, size, store int }

// end is what has become of it at last.
type end struct{ moults, size int }

func stageOf(g api.Growth, size int) api.Stage {
	for i := len(g.Stages) - 1; i > 0; i-- {
		if size >= g.Stages[i].From {
			return g.Stages[i]
		}
	}
	return g.Stages[0]
}

func larger(g api.Growth, size, step int) int {
	if size > g.Most {
		return size
	}
	return min(g.Most, size+step)
}

// follow goes through all true courses from a state on.
func follow(g api.Growth, now state, seen map[state]bool, ends map[end]bool) {
	if seen[now] {
		return
	}
	seen[now] = true
	stage := stageOf(g, now.size)
	for need := stage.Need.Lo; need <= stage.Need.Hi; need++ {
		if now.store < need {
			ends[end{now.moults, now.size}] = true
			continue
		}
		for step := stage.Step.Lo; step <= stage.Step.Hi; step++ {
			follow(g, state{now.moults + 1, larger(g, now.size, step), now.store - need}, seen, ends)
		}
	}
}

// allEnds returns what may become of an animal, and the greatest number of its moults.
func allEnds(g api.Growth, a api.Animal, heat api.Span) (map[end]bool, int) {
	seen, ends, most := map[state]bool{}, map[end]bool{}, 0
	for size := a.Size.Lo; size <= a.Size.Hi; size++ {
		for store := a.Heat.Lo; store <= a.Heat.Hi; store++ {
			for h := heat.Lo; h <= heat.Hi; h++ {
				follow(g, state{0, size, store + h}, seen, ends)
			}
		}
	}
	for s := range seen {
		most = max(most, s.moults)
	}
	return ends, most
}

// asReach returns ends as Reach has to list them.
func asReach(ends map[end]bool) []api.Reach {
	var list []api.Reach
	for moults := range api.MaxMoults + 1 {
		for size := range api.MaxSize + 1 {
			if !ends[end{moults, size}] {
				continue
			}
			if n := len(list); n > 0 && list[n-1].Moults == moults && list[n-1].Size.Hi == size-1 {
				list[n-1].Size.Hi = size
			} else {
				list = append(list, reach(moults, size, size))
			}
		}
	}
	return list
}

// verdictOf says whether all sizes of the ends are in a span, or none, or some.
func verdictOf(ends map[end]bool, sizes api.Span) int {
	in, out := false, false
	for e := range ends {
		inside := sizes.Lo <= e.size && e.size <= sizes.Hi
		in, out = in || inside, out || !inside
	}
	switch {
	case !out:
		return api.Sure
	case !in:
		return api.Never
	}
	return api.Open
}

// P1.2, P1.7, P1.8, P0: for small animals Reach has the ends of all true courses, and nothing else, and Fits says what is so.
func TestReachIsTrueAndHasAll(t *testing.T) {
	r := newRandom()
	full := 0
	for range 1500 {
		g := r.growth(16, 4, 4)
		a, heat := api.Animal{Size: r.span(0, 16), Heat: r.span(0, 8)}, r.span(0, 8)
		ends, most := allEnds(g, a, heat)
		list, e := growth.Reach(g, a, heat)
		if most > api.MaxMoults {
			full++
			if e != api.ErrFull || list != nil {
				t.Fatalf("Reach(%v, %v, %v) returns %v %d with %d moults", g, a, heat, list, e, most)
			}
			continue
		}
		if want := asReach(ends); e != api.OK || !slices.Equal(list, want) {
			t.Fatalf("Reach(%v, %v, %v) returns %v %d, not %v", g, a, heat, list, e, want)
		}
		sizes := r.span(0, 20)
		if v, e := growth.Fits(g, a, heat, sizes); e != api.OK || v != verdictOf(ends, sizes) {
			t.Fatalf("Fits(%v, %v, %v, %v) returns %d %d, not %d", g, a, heat, sizes, v, e, verdictOf(ends, sizes))
		}
	}
	if full == 0 {
		t.Error("no animal moults too often")
	}
}

// P1.8: the sizes of large animals with wide steps are all and none but those that they truly may have.
func TestReachOfLargeAnimalsHasAll(t *testing.T) {
	r := newRandom()
	for range 12 {
		g := r.growth(2500, 2, 300)
		first := r.in(0, 2490)
		a, heat := api.Animal{Size: r.span(first, first+10)}, r.span(1, 4)
		ends, _ := allEnds(g, a, heat)
		if list, e := growth.Reach(g, a, heat); e != api.OK || !slices.Equal(list, asReach(ends)) {
			t.Fatalf("Reach(%v, %v, %v) returns %v %d, not %v", g, a, heat, list, e, asReach(ends))
		}
	}
}

// grown returns what becomes of an animal on one true course.
func (r random) grown(g api.Growth, size, store int) end {
	for moults := 0; ; moults++ {
		stage := stageOf(g, size)
		need := r.in(stage.Need.Lo, stage.Need.Hi)
		if store < need {
			return end{moults, size}
		}
		store, size = store-need, larger(g, size, r.in(stage.Step.Lo, stage.Step.Hi))
	}
}

func has(list []api.Reach, e end) bool {
	return slices.ContainsFunc(list, func(x api.Reach) bool {
		return x.Moults == e.moults && x.Size.Lo <= e.size && e.size <= x.Size.Hi
	})
}

// P1.7: animals as large as they truly are grow within Reach, and as Fits says.
func TestLargeAnimalsGrowWithinReach(t *testing.T) {
	r := newRandom()
	for range 60 {
		g := r.growth(2500, 4000, 300)
		for i := range g.Stages {
			g.Stages[i].Need.Lo += 2000
			g.Stages[i].Need.Hi += 2000
		}
		a, heat := api.Animal{Size: r.span(0, 2500), Heat: r.span(0, 8000)}, r.span(0, 16000)
		list, e := growth.Reach(g, a, heat)
		sizes := r.span(0, 2500)
		v, f := growth.Fits(g, a, heat, sizes)
		if e != api.OK || f != api.OK {
			t.Fatal(g, a, heat, e, f)
		}
		for range 200 {
			is := r.grown(g, r.in(a.Size.Lo, a.Size.Hi), r.in(a.Heat.Lo, a.Heat.Hi)+r.in(heat.Lo, heat.Hi))
			inside := sizes.Lo <= is.size && is.size <= sizes.Hi
			if !has(list, is) || v == api.Sure && !inside || v == api.Never && inside {
				t.Fatalf("%v, %v, %v: %v is not in %v, or not as %d says of %v", g, a, heat, is, list, v, sizes)
			}
		}
	}
}

// P1.9: with narrower spans there is nothing new, and what is Sure or Never stays.
func TestNarrowerSpans(t *testing.T) {
	r := newRandom()
	for range 600 {
		g := r.growth(60, 20, 9)
		a, heat, sizes := api.Animal{Size: r.span(0, 60), Heat: r.span(0, 6)}, r.span(0, 6), r.span(0, 80)
		b, less := api.Animal{Size: r.part(a.Size), Heat: r.part(a.Heat)}, r.part(heat)
		wide, e := growth.Reach(g, a, heat)
		narrow, f := growth.Reach(g, b, less)
		if e != api.OK || f != api.OK {
			t.Fatal(g, a, heat, e, f)
		}
		for _, x := range narrow {
			for size := x.Size.Lo; size <= x.Size.Hi; size++ {
				if !has(wide, end{x.Moults, size}) {
					t.Fatalf("%v: %v of %v %v is not in %v of %v %v", g, x, b, less, wide, a, heat)
				}
			}
		}
		v, _ := growth.Fits(g, a, heat, sizes)
		if w, _ := growth.Fits(g, b, less, sizes); v != api.Open && w != v {
			t.Fatalf("%v: %d of %v %v is %d for %v %v", g, v, a, heat, w, b, less)
		}
	}
}

// P1.10: without heat nothing changes.
func TestCalm(t *testing.T) {
	r := newRandom()
	for range 300 {
		g := r.growth(2500, 100, 300)
		a := api.Animal{Size: r.span(0, 2500)}
		want := []api.Reach{{Size: a.Size}}
		if list, e := growth.Reach(g, a, api.Span{}); e != api.OK || !slices.Equal(list, want) {
			t.Fatalf("Reach(%v, %v) returns %v %d", g, a, list, e)
		}
		edges, herd := r.herd(2500, 5, 1000000000)
		next, e := growth.Next(g, edges, herd, api.Span{}, api.Span{}, one(api.Mil))
		if e != api.OK || !slices.Equal(next, append(slices.Clone(herd), api.Span{})) {
			t.Fatalf("Next(%v, %v, %v) returns %v %d", g, edges, herd, next, e)
		}
	}
}

// herd returns edges up to a size, and a herd with at most so many animals of each class.
func (r random) herd(size, classes, most int) ([]int, []api.Span) {
	edges := []int{r.in(0, size/2)}
	var herd []api.Span
	for range r.in(1, classes) {
		edge := edges[len(edges)-1] + r.in(1, 1+size/classes)
		if edge > api.MaxSize+1 {
			break
		}
		edges, herd = append(edges, edge), append(herd, r.span(0, most))
	}
	if len(herd) == 0 {
		return []int{0, size}, []api.Span{r.span(0, most)}
	}
	return edges, herd
}

// classOf returns the class of a size that is not below the first edge; sizes from the last edge on have one of their own.
func classOf(edges []int, size int) int {
	for i := range edges {
		if i+1 == len(edges) || size < edges[i+1] {
			return i
		}
	}
	return -1
}

// placed returns the numbers with one animal more, in any of some classes.
func placed(numbers map[[4]int]bool, classes map[int]bool) map[[4]int]bool {
	next := map[[4]int]bool{}
	for n := range numbers {
		for class := range classes {
			more := n
			more[class]++
			next[more] = true
		}
	}
	return next
}

// living returns how many of so many animals may live.
func living(count, live api.Span) map[int]bool {
	lives := map[int]bool{}
	for n := count.Lo; n <= count.Hi; n++ {
		for k := 0; k <= n; k++ {
			// Rounded down and up: less than one animal away from the part.
			if (k+1)*api.Mil > n*live.Lo && (k-1)*api.Mil < n*live.Hi {
				lives[k] = true
			}
		}
	}
	return lives
}

// allNumbers returns all numbers by classes that a herd of at most 3 classes may truly have, and the greatest number of moults.
func allNumbers(c nextCase) (map[[4]int]bool, int) {
	all, often := map[[4]int]bool{{}: true}, 0
	for i, count := range c.herd {
		ends, most := allEnds(c.g, api.Animal{Size: span(c.edges[i], c.edges[i+1]-1), Heat: c.store}, c.heat)
		often = max(often, most)
		to := map[int]bool{}
		for e := range ends {
			to[classOf(c.edges, e.size)] = true
		}
		next, lives, now := map[[4]int]bool{}, living(count, c.live), all
		for k := 0; k <= count.Hi; k++ {
			for n := range now {
				next[n] = next[n] || lives[k]
			}
			now = placed(now, to)
		}
		all = map[[4]int]bool{}
		for n, is := range next {
			if is {
				all[n] = true
			}
		}
	}
	return all, often
}

// P1.4, P1.11, P0: the numbers of small herds lie within Next, and each number of it is reached.
func TestHerdsAreTrueAndAllReached(t *testing.T) {
	r := newRandom()
	full, open := 0, 0
	for range 1500 {
		c := nextCase{g: r.growth(16, 4, 4), store: r.span(0, 4), heat: r.span(0, 9), live: r.span(0, api.Mil)}
		c.edges, c.herd = r.herd(16, 3, 3)
		all, often := allNumbers(c)
		list, e := growth.Next(c.g, c.edges, c.herd, c.store, c.heat, c.live)
		if often > api.MaxMoults {
			full++
			if e != api.ErrFull || list != nil {
				t.Fatalf("Next(%v) returns %v %d with %d moults", c, list, e, often)
			}
			continue
		}
		if e != api.OK || len(list) != len(c.edges) {
			t.Fatalf("Next(%v) returns %v %d", c, list, e)
		}
		for class, s := range list {
			reached := map[int]bool{}
			for n := range all {
				reached[n[class]] = true
			}
			for n := range 10 {
				if reached[n] != (s.Lo <= n && n <= s.Hi) {
					t.Fatalf("Next(%v) returns %v: of the class %d, %d is reached: %t", c, list, class, n, reached[n])
				}
			}
			if s.Lo < s.Hi {
				open++
			}
		}
	}
	if full == 0 || open == 0 {
		t.Error("the herds are too much alike:", full, open)
	}
}

// P1.4, P1.11: herds as large as they truly are live and grow within Next.
func TestLargeHerdsGrowWithinNext(t *testing.T) {
	r := newRandom()
	for range 60 {
		c := nextCase{g: r.growth(2500, 4000, 300), store: r.span(0, 2000), heat: r.span(0, 6000), live: r.span(0, api.Mil)}
		for i := range c.g.Stages {
			c.g.Stages[i].Need.Lo += 1000
			c.g.Stages[i].Need.Hi += 1000
		}
		c.edges, c.herd = r.herd(1500, 8, 60)
		list, e := growth.Next(c.g, c.edges, c.herd, c.store, c.heat, c.live)
		if e != api.OK {
			t.Fatal(c, e)
		}
		numbers := make([]int, len(c.edges))
		for i, count := range c.herd {
			n := r.in(count.Lo, count.Hi)
			for range r.in(n*c.live.Lo/api.Mil, n*c.live.Hi/api.Mil) {
				is := r.grown(c.g, r.in(c.edges[i], c.edges[i+1]-1), r.in(c.store.Lo, c.store.Hi)+r.in(c.heat.Lo, c.heat.Hi))
				numbers[classOf(c.edges, is.size)]++
			}
		}
		for i, n := range numbers {
			if n < list[i].Lo || n > list[i].Hi {
				t.Fatalf("%v: %v is not within %v", c, numbers, list)
			}
		}
	}
}

// settled returns all numbers of larvae that may truly settle.
func settled(n api.Nursery, days, larvae []api.Span) map[int]bool {
	sums := map[int]bool{0: true}
	for i, day := range days {
		counts := map[int]bool{}
		for w := day.Lo; w <= day.Hi; w++ {
			for p := larvae[i].Lo; p <= larvae[i].Hi; p++ {
				if w < n.Low || w > n.High {
					counts[0] = true
					continue
				}
				for k := 0; k <= p; k++ {
					if (k+1)*api.Mil > p*n.Rate && (k-1)*api.Mil < p*n.Rate {
						counts[k] = true
					}
				}
			}
		}
		next := map[int]bool{}
		for sum := range sums {
			for k := range counts {
				next[sum+k] = true
			}
		}
		sums = next
	}
	all := map[int]bool{}
	for sum := range sums {
		all[min(sum, n.Room)] = true
	}
	return all
}

// P1.5, P1.12, P0: all that may settle lies within Settle, whose ends are reached; the days may stand in any order; more room is never worse.
func TestLarvae(t *testing.T) {
	r := newRandom()
	for range 1500 {
		bounds := r.span(5, 12)
		n := api.Nursery{Low: bounds.Lo, High: bounds.Hi, Rate: r.in(0, api.Mil), Room: r.in(0, 12)}
		var days, larvae []api.Span
		for range r.in(0, 4) {
			days, larvae = append(days, r.span(3, 14)), append(larvae, r.span(0, 6))
		}
		s, e := growth.Settle(n, days, larvae)
		want := span(100, 0)
		for k := range settled(n, days, larvae) {
			want = span(min(want.Lo, k), max(want.Hi, k))
		}
		if e != api.OK || s != want {
			t.Fatalf("Settle(%v, %v, %v) returns %v %d, not %v", n, days, larvae, s, e, want)
		}
		slices.Reverse(days)
		slices.Reverse(larvae)
		if x, e := growth.Settle(n, days, larvae); x != s || e != api.OK {
			t.Fatalf("Settle(%v, %v, %v) returns %v %d, not %v as in the other order", n, days, larvae, x, e, s)
		}
		n.Room += r.in(0, 5)
		if x, e := growth.Settle(n, days, larvae); x.Lo < s.Lo || x.Hi < s.Hi || e != api.OK {
			t.Fatalf("Settle(%v, %v, %v) returns %v %d, and %v with less room", n, days, larvae, x, e, s)
		}
	}
}
