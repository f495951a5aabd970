package tank_test

import (
	"maps"
	"slices"
	"testing"

	"homarus/api"
	"homarus/tank"
)

// set is whole numbers.
type set map[int]bool

func allOf(s api.Span) set {
	all := set{}
	for n := s.Lo; n <= s.Hi; n++ {
		all[n] = true
	}
	return all
}

func (s set) span() api.Span {
	list := slices.Sorted(maps.Keys(s))
	return span(list[0], list[len(list)-1])
}

// truth is the numbers that the oxygen, the ammonia and the warmth of a tank may truly have. What happens to one of them says nothing of the others.
type truth [3]set

func truthOf(w api.Water) truth { return truth{allOf(w.Oxygen), allOf(w.Ammonia), allOf(w.Warm)} }

// water returns the ends of what is true.
func (x truth) water() api.Water {
	return api.Water{Oxygen: x[0].span(), Ammonia: x[1].span(), Warm: x[2].span()}
}

// rounded returns the whole numbers that n / by is if it is rounded down or up.
func rounded(n, by int) (down, up int) {
	for down = n / by; down*by > n; down-- {
	}
	for up = down; up*by < n; up++ {
	}
	return down, up
}

// scenario is a pump, and from which hour on it fails.
type scenario struct{ pump, from int }

// scenariosOf returns all scenarios for some hours, in their order.
func scenariosOf(p api.Plant, hours int) []scenario {
	list := []scenario{{-1, 0}}
	for pump := range p.Pumps {
		for from := range hours {
			list = append(list, scenario{pump, from})
		}
	}
	return list
}

// flowOf returns what the pumps of a tank that work give from an hour to the next one.
func flowOf(p api.Plant, s scenario, number, hour int) int {
	flow := 0
	for i, pump := range p.Pumps {
		fails := i == s.pump && hour >= s.from
		if pump.Tank == number && !fails {
			flow += pump.Flow
		}
	}
	return flow
}

// hour is what may truly happen in a tank from an hour to the next one, and between which numbers each number of water stays.
type hour struct {
	litres, grams, flow int
	p                   api.Plant
}

// later calls yield with each number that the sum may be rounded to, number by number of what may truly be.
func (h hour) later(now truth, yield func(number, n int)) {
	mixes := func(number int, sea set, then func(mixed int)) {
		for x := range now[number] {
			for s := range sea {
				then((h.litres-h.flow)*x + h.flow*s)
			}
		}
	}
	round := func(number, n, by int, bounds api.Span) {
		down, up := rounded(n, by)
		for _, n := range []int{down, up} {
			yield(number, max(bounds.Lo, min(bounds.Hi, n)))
		}
	}
	mixes(0, allOf(h.p.Sea.Oxygen), func(mixed int) {
		for u := range allOf(h.p.Use) {
			for a := range allOf(h.p.Air) {
				round(0, 1000*mixed-u*h.grams+1000*h.litres*a, 1000*h.litres, span(0, 100000))
			}
		}
	})
	mixes(1, allOf(h.p.Sea.Ammonia), func(mixed int) {
		for w := range allOf(h.p.Waste) {
			round(1, 1000*mixed+w*h.grams, 1000*h.litres, span(0, 100000))
		}
	})
	mixes(2, allOf(h.p.Sea.Warm), func(mixed int) {
		for g := range allOf(h.p.Gain) {
			round(2, mixed+h.litres*g, h.litres, span(-50, 400))
		}
	})
}

// truths returns what the water of a tank may truly be in each hour of a scenario.
func truths(p api.Plant, s scenario, number, hours int) []truth {
	t := p.Tanks[number]
	list := []truth{truthOf(t.Water)}
	for i := range hours {
		next := truth{{}, {}, {}}
		h := hour{t.Litres, t.Grams, flowOf(p, s, number, i), p}
		h.later(list[i], func(number, n int) { next[number][n] = true })
		list = append(list, next)
	}
	return list
}

// P7.1, P7.7, P7.8: in small plants what is known is just from the least to the greatest number that may truly be.
func TestTruth(t *testing.T) {
	r := newRandom()
	for range 400 {
		p, hours := r.smallPlant(), r.in(0, 3)
		for _, s := range scenariosOf(p, hours) {
			list, e := tank.Run(p, s.pump, s.from, hours)
			if e != api.OK || len(list) != hours+1 {
				t.Fatalf("%v: Run returns %v %d", p, list, e)
			}
			for number := range p.Tanks {
				for hour, x := range truths(p, s, number, hours) {
					if got := list[hour][number]; got != x.water() || len(list[hour]) != len(p.Tanks) {
						t.Fatalf("%v %v: tank %d, hour %d: %v, not %v", p, s, number, hour, got, x.water())
					}
				}
			}
		}
	}
}

// counts says of how many true numbers how many keep their limits.
type counts struct{ yes, all int }

func (x truth) kept(p api.Plant) counts {
	limits := []func(n int) bool{
		func(n int) bool { return n >= p.Least },
		func(n int) bool { return n <= p.Most },
		func(n int) bool { return p.Warm.Lo <= n && n <= p.Warm.Hi },
	}
	c := counts{1, 1}
	for number, keeps := range limits {
		yes := 0
		for n := range x[number] {
			if keeps(n) {
				yes++
			}
		}
		c.yes, c.all = c.yes*yes, c.all*len(x[number])
	}
	return c
}

// P7.2, P7.7, P7.9: in small plants Sure is what all that may truly be keeps, and Never what in some scenario nothing does.
func TestTrueVerdicts(t *testing.T) {
	r := newRandom()
	seen := map[int]int{}
	named := map[bool]int{}
	for range 1500 {
		p, hours := r.smallPlant(), r.in(0, 3)
		want := holding{api.Sure, -1, -1, api.OK}
		for _, s := range scenariosOf(p, hours) {
			for number := range p.Tanks {
				for _, x := range truths(p, s, number, hours) {
					c := x.kept(p)
					if c.yes < c.all && want.verdict == api.Sure {
						want = holding{api.Open, s.pump, s.from, api.OK}
					}
					if c.yes == 0 {
						want.verdict = api.Never
					}
				}
			}
		}
		if got := holds(p, hours); got != want {
			t.Fatalf("%v: Holds for %d hours returns %v, not %v", p, hours, got, want)
		}
		seen[want.verdict]++
		named[want.pump >= 0]++
	}
	if seen[api.Sure] < 150 || seen[api.Open] < 150 || seen[api.Never] < 150 || named[true] < 50 {
		t.Error("verdicts:", seen, "with a pump that fails:", named)
	}
}

// isSafe says whether a tank with so many grams surely keeps the limits in all scenarios, whatever truly happens.
func isSafe(p api.Plant, number, grams, hours int) bool {
	p.Tanks = slices.Clone(p.Tanks)
	p.Tanks[number].Grams = grams
	for _, s := range scenariosOf(p, hours) {
		for _, x := range truths(p, s, number, hours) {
			if c := x.kept(p); c.yes < c.all {
				return false
			}
		}
	}
	return true
}

// P7.3, P7.10: in small plants there is room for the most with which all that may truly be keeps the limits.
func TestTrueRoom(t *testing.T) {
	r := newRandom()
	without, all, some := 0, 0, 0
	for range 600 {
		p, hours := r.smallPlant(), r.in(0, 2)
		number := r.Intn(len(p.Tanks))
		n, e := tank.Room(p, number, hours)
		if e == api.ErrMissing {
			without++
			if n != 0 || isSafe(p, number, 0, hours) {
				t.Fatalf("%v: Room(%d %d) returns %d %d", p, number, hours, n, e)
			}
			continue
		}
		if e != api.OK || !isSafe(p, number, n, hours) || !isSafe(p, number, r.in(0, n), hours) {
			t.Fatalf("%v: Room(%d %d) returns %d %d, too many", p, number, hours, n, e)
		}
		if n == 10000000 {
			all++
			continue
		}
		some++
		if isSafe(p, number, n+1, hours) || isSafe(p, number, r.in(n+1, 10000000), hours) {
			t.Fatalf("%v: Room(%d %d) returns %d, too few", p, number, hours, n)
		}
	}
	if without < 60 || all < 60 || some < 60 {
		t.Error(without, "without room,", all, "with room for all,", some, "with room for some")
	}
}

// fits says of how many of the first readings a scenario knows that they may be: each one in its hour.
func fits(course []api.Water, log []api.Reading) int {
	has := func(s api.Span, n int) bool { return s.Lo <= n && n <= s.Hi }
	for i, x := range log {
		w := course[x.Hour]
		if !has(w.Oxygen, x.Oxygen) || !has(w.Ammonia, x.Ammonia) || !has(w.Warm, x.Warm) {
			return i
		}
	}
	return len(log)
}

// courseOf returns what Run says of a tank, hour by hour.
func courseOf(p api.Plant, s scenario, number, hours int) []api.Water {
	var course []api.Water
	list, _ := tank.Run(p, s.pump, s.from, hours)
	for _, waters := range list {
		course = append(course, waters[number])
	}
	return course
}

// trueReadings returns how many of the first readings may truly be in a scenario, all of them in one course.
func trueReadings(p api.Plant, s scenario, number int, log []api.Reading) int {
	t := p.Tanks[number]
	now, read := truthOf(t.Water), 0
	for i := 0; read < len(log); i++ {
		if log[read].Hour == i {
			for j, n := range []int{log[read].Oxygen, log[read].Ammonia, log[read].Warm} {
				if !now[j][n] {
					return read
				}
				now[j] = set{n: true}
			}
			read++
		}
		next := truth{{}, {}, {}}
		h := hour{t.Litres, t.Grams, flowOf(p, s, number, i), p}
		h.later(now, func(number, n int) { next[number][n] = true })
		now = next
	}
	return read
}

// P7.5, P7.13: Honest follows the chapter word by word, and what is true in some scenario is honest.
func TestTrueLogs(t *testing.T) {
	r := newRandom()
	whole, part, truly := 0, 0, 0
	for range 700 {
		p, hours := r.smallPlant(), r.in(0, 3)
		number := r.Intn(len(p.Tanks))
		all := scenariosOf(p, hours)
		log := r.log(courseOf(p, all[r.Intn(len(all))], number, hours))
		if len(log) > 0 && r.Intn(2) == 0 {
			x := &log[r.Intn(len(log))]
			x.Oxygen, x.Warm = max(x.Oxygen-r.in(0, 2), 0), max(x.Warm-r.in(0, 1), -50)
		}
		want, most := 0, 0
		last := 0
		if len(log) > 0 {
			last = log[len(log)-1].Hour
		}
		for _, s := range scenariosOf(p, last) {
			want = max(want, fits(courseOf(p, s, number, last), log))
			most = max(most, trueReadings(p, s, number, log))
		}
		if n, e := tank.Honest(p, number, log); n != want || e != api.OK || n < most {
			t.Fatalf("%v: Honest(%d %v) returns %d %d, not %d; %d are true", p, number, log, n, e, want, most)
		}
		if want < len(log) {
			part++
		} else {
			whole++
		}
		if most == len(log) && most > 1 {
			truly++
		}
	}
	if whole < 100 || part < 100 || truly < 50 {
		t.Error(whole, "logs are honest,", part, "are not,", truly, "are true")
	}
}

// trueCourse returns the water of a tank in each hour, as it may truly be: of returns each number that is not known, and isUp says whether a sum is rounded up. It is asked of each thing by which more of a number is there, or less.
func trueCourse(p api.Plant, s scenario, number, hours int, of func(s api.Span, more bool) int, isUp func() bool) []api.Reading {
	t := p.Tanks[number]
	x := at(0, of(t.Water.Oxygen, true), of(t.Water.Ammonia, true), of(t.Water.Warm, true))
	list := []api.Reading{x}
	round := func(n, by, low, high int) int {
		down, up := rounded(n, by)
		if isUp() {
			down = up
		}
		return max(low, min(high, down))
	}
	for i := range hours {
		l, flow := t.Litres, flowOf(p, s, number, i)
		oxygen := 1000*((l-flow)*x.Oxygen+flow*of(p.Sea.Oxygen, true)) - of(p.Use, false)*t.Grams + 1000*l*of(p.Air, true)
		ammonia := 1000*((l-flow)*x.Ammonia+flow*of(p.Sea.Ammonia, true)) + of(p.Waste, true)*t.Grams
		warm := (l-flow)*x.Warm + flow*of(p.Sea.Warm, true) + l*of(p.Gain, true)
		x = at(i+1, round(oxygen, 1000*l, 0, 100000), round(ammonia, 1000*l, 0, 100000), round(warm, l, -50, 400))
		list = append(list, x)
	}
	return list
}

// anyScenario returns a scenario for some hours.
func (r random) anyScenario(p api.Plant, hours int) scenario {
	all := scenariosOf(p, hours)
	return all[r.Intn(len(all))]
}

// plant returns any valid plant; half of them keep the limits for some hours.
func (r random) plant() api.Plant {
	if r.Intn(2) == 0 {
		return r.wellPlant()
	}
	return r.largePlant()
}

// P7.7, P7.8, P7.9, P7.13: in large plants each true course is within what is known, and honest; those in which all is as low, or as high, as can be reach its ends.
func TestTrueCourses(t *testing.T) {
	r := newRandom()
	sure := 0
	for range 300 {
		p, hours := r.plant(), []int{r.in(0, 6), r.in(0, 48)}[r.Intn(2)]
		number, s := r.Intn(len(p.Tanks)), r.anyScenario(p, hours)
		known := courseOf(p, s, number, hours)
		course := trueCourse(p, s, number, hours, func(s api.Span, _ bool) int { return r.of(s) }, func() bool { return r.Intn(2) == 0 })
		if fits(known, course) != hours+1 {
			t.Fatalf("%v %v: tank %d: the course %v is not within %v", p, s, number, course, known)
		}
		if n, e := tank.Honest(p, number, course); n != hours+1 || e != api.OK {
			t.Fatalf("%v %v: tank %d: Honest returns %d %d", p, s, number, n, e)
		}
		low := trueCourse(p, s, number, hours, func(s api.Span, more bool) int { return endOf(s, !more) }, func() bool { return false })
		high := trueCourse(p, s, number, hours, func(s api.Span, more bool) int { return endOf(s, more) }, func() bool { return true })
		for hour, w := range known {
			a, b := low[hour], high[hour]
			if w != (api.Water{Oxygen: span(a.Oxygen, b.Oxygen), Ammonia: span(a.Ammonia, b.Ammonia), Warm: span(a.Warm, b.Warm)}) {
				t.Fatalf("%v %v: tank %d, hour %d: %v, but %v and %v may be", p, s, number, hour, w, a, b)
			}
		}
		if holds(p, hours).verdict != api.Sure {
			continue
		}
		sure++
		for _, x := range course {
			if x.Oxygen < p.Least || x.Ammonia > p.Most || x.Warm < p.Warm.Lo || x.Warm > p.Warm.Hi {
				t.Fatalf("%v %v: tank %d: Holds is sure, but there is %v", p, s, number, x)
			}
		}
	}
	if sure < 25 {
		t.Error("Holds was sure", sure, "times")
	}
}

func endOf(s api.Span, high bool) int {
	if high {
		return s.Hi
	}
	return s.Lo
}

// P7.2, P7.5, P7.9: in large plants Holds and Honest follow from what Run says of all scenarios.
func TestAllScenarios(t *testing.T) {
	r := newRandom()
	seen := map[int]int{}
	for range 60 {
		p, hours := r.plant(), []int{r.in(0, 6), 48}[r.Intn(2)]
		number := r.Intn(len(p.Tanks))
		want, most := holding{api.Sure, -1, -1, api.OK}, 0
		log := r.log(courseOf(p, r.anyScenario(p, hours), number, hours))
		log = append(log[:r.in(0, len(log))], at(hours, r.in(0, 100000), r.in(0, 100000), r.in(-50, 400)))
		if len(log) > 1 && log[len(log)-2].Hour == hours {
			log = log[:len(log)-1]
		}
		for _, s := range scenariosOf(p, hours) {
			most = max(most, fits(courseOf(p, s, number, hours), log))
			list, _ := tank.Run(p, s.pump, s.from, hours)
			for _, w := range slices.Concat(list...) {
				kept := w.Oxygen.Lo >= p.Least && w.Ammonia.Hi <= p.Most && w.Warm.Lo >= p.Warm.Lo && w.Warm.Hi <= p.Warm.Hi
				broken := w.Oxygen.Hi < p.Least || w.Ammonia.Lo > p.Most || w.Warm.Hi < p.Warm.Lo || w.Warm.Lo > p.Warm.Hi
				if !kept && want.verdict == api.Sure {
					want = holding{api.Open, s.pump, s.from, api.OK}
				}
				if broken {
					want.verdict = api.Never
				}
			}
		}
		if got := holds(p, hours); got != want {
			t.Fatalf("%v: Holds(%d) returns %v, not %v", p, hours, got, want)
		}
		if n, e := tank.Honest(p, number, log); n != most || e != api.OK {
			t.Fatalf("%v: Honest(%d %v) returns %d %d, not %d", p, number, log, n, e, most)
		}
		seen[want.verdict]++
	}
	if seen[api.Sure] < 5 || seen[api.Open] < 5 || seen[api.Never] < 5 {
		t.Error("verdicts:", seen)
	}
}

// P7.3, P7.10: with as many grams as Room says, and with fewer, Holds is sure of the tank alone; with more it is not.
func TestRoomHolds(t *testing.T) {
	r := newRandom()
	some := 0
	for range 60 {
		p, hours := r.plant(), r.in(0, 12)
		number := r.Intn(len(p.Tanks))
		n, e := tank.Room(p, number, hours)
		alone := p
		alone.Tanks, alone.Pumps = p.Tanks[number:][:1:1], nil
		for _, pump := range p.Pumps {
			if pump.Tank == number {
				alone.Pumps = append(alone.Pumps, api.Pump{Flow: pump.Flow})
			}
		}
		isSure := func(grams int) bool {
			q := alone
			q.Tanks = slices.Clone(q.Tanks)
			q.Tanks[0].Grams = grams
			return holds(q, hours).verdict == api.Sure
		}
		if e == api.ErrMissing {
			if isSure(0) {
				t.Fatalf("%v: Room(%d %d) returns %d", p, number, hours, e)
			}
			continue
		}
		some++
		if e != api.OK || !isSure(n) || !isSure(r.in(0, n)) || n < 10000000 && (isSure(n+1) || isSure(r.in(n+1, 10000000))) {
			t.Fatalf("%v: Room(%d %d) returns %d %d", p, number, hours, n, e)
		}
	}
	if some < 15 {
		t.Error(some, "have room")
	}
}

// narrow returns a part of a span.
func (r random) narrow(s api.Span) api.Span { return r.span(s.Lo, s.Hi) }

func (r random) narrowWater(w api.Water) api.Water {
	return api.Water{Oxygen: r.narrow(w.Oxygen), Ammonia: r.narrow(w.Ammonia), Warm: r.narrow(w.Warm)}
}

func isWithin(a, b api.Span) bool { return b.Lo <= a.Lo && a.Hi <= b.Hi }

// P7.11: with narrower water, sea, use, waste, air and gain nothing that is known is wider; what is sure stays so.
func TestNarrower(t *testing.T) {
	r := newRandom()
	for range 300 {
		p, hours := r.plant(), r.in(0, 20)
		q := p
		q.Tanks = slices.Clone(p.Tanks)
		for _, change := range []func(){
			func() { q.Tanks[0].Water = r.narrowWater(p.Tanks[0].Water) },
			func() { q.Sea = r.narrowWater(p.Sea) },
			func() { q.Use = r.narrow(p.Use) },
			func() { q.Waste = r.narrow(p.Waste) },
			func() { q.Air = r.narrow(p.Air) },
			func() { q.Gain = r.narrow(p.Gain) },
		} {
			if r.Intn(2) == 0 {
				change()
			}
		}
		s := r.anyScenario(p, hours)
		wide, _ := tank.Run(p, s.pump, s.from, hours)
		list, _ := tank.Run(q, s.pump, s.from, hours)
		for hour, waters := range list {
			for number, w := range waters {
				old := wide[hour][number]
				if !isWithin(w.Oxygen, old.Oxygen) || !isWithin(w.Ammonia, old.Ammonia) || !isWithin(w.Warm, old.Warm) {
					t.Fatalf("%v and %v: %v is not within %v", p, q, w, old)
				}
			}
		}
		if old, now := holds(p, hours), holds(q, hours); old.verdict != api.Open && now.verdict != old.verdict {
			t.Fatalf("%v and %v: Holds returns %v, then %v", p, q, old, now)
		}
	}
}

// shared shares d among numbers, one by one: first the whole parts, then one more for the one with the greatest rest that has none yet.
func shared(d int, list []int) []int {
	parts, more, left, all := make([]int, len(list)), make([]bool, len(list)), d, 0
	for _, n := range list {
		all += n
	}
	for i, n := range list {
		for all > 0 && (parts[i]+1)*all <= d*n {
			parts[i]++
			left--
		}
	}
	for ; left > 0; left-- {
		best := -1
		for i, n := range list {
			if !more[i] && (best < 0 || d*n-parts[i]*all > d*list[best]-parts[best]*all) {
				best = i
			}
		}
		more[best] = true
	}
	for i := range parts {
		if more[i] {
			parts[i]++
		}
	}
	return parts
}

// P7.4, P7.12: all dead ones are shared, weak ones first, as exactly as can be.
func TestShares(t *testing.T) {
	r := newRandom()
	for range 3000 {
		l := r.lots()
		var weak, strong []int
		allWeak, allStrong := 0, 0
		for _, lot := range l {
			weak, strong = append(weak, lot.Weak), append(strong, lot.Strong)
			allWeak, allStrong = allWeak+lot.Weak, allStrong+lot.Strong
		}
		deaths := []int{r.in(0, allWeak), r.in(0, allWeak+allStrong), allWeak + allStrong}[r.Intn(3)]
		dead, e := tank.Share(l, deaths)
		if e != api.OK || len(dead) != len(l) {
			t.Fatalf("%v: Share(%d) returns %v %d", l, deaths, dead, e)
		}
		weakDead := min(deaths, allWeak)
		a, b := shared(weakDead, weak), shared(deaths-weakDead, strong)
		sum := 0
		for i, n := range dead {
			sum += n
			if n != a[i]+b[i] || n > l[i].Strong+l[i].Weak {
				t.Fatalf("%v: Share(%d) returns %v, not %v and %v", l, deaths, dead, a, b)
			}
			partWeak, restWeak := part(weakDead, weak[i], allWeak)
			partStrong, restStrong := part(deaths-weakDead, strong[i], allStrong)
			if n < partWeak+partStrong || n > partWeak+partStrong+restWeak+restStrong {
				t.Fatalf("%v: Share(%d) gives %d to the lot %d", l, deaths, n, i)
			}
			for j, other := range l {
				if other == l[i] && n-dead[j] > 2 {
					t.Fatalf("%v: Share(%d) returns %v: %d and %d are equal", l, deaths, dead, i, j)
				}
			}
		}
		if sum != deaths {
			t.Fatalf("%v: Share(%d) returns %v, %d in all", l, deaths, dead, sum)
		}
	}
}

// part returns d * n / all, rounded down, and 1 if there is a rest, otherwise 0.
func part(d, n, all int) (down, rest int) {
	if all == 0 {
		return 0, 0
	}
	return d * n / all, min(d*n%all, 1)
}

// P7.6, P7.14: what is written is read, and whatever is read is written as it was.
func TestTexts(t *testing.T) {
	r := newRandom()
	read := 0
	for range 3000 {
		log := hours(r.in(0, 8), api.Reading{})
		for i := range log {
			log[i].Hour = 6*i + r.in(0, 5)
			log[i].Oxygen, log[i].Ammonia, log[i].Warm = r.in(0, []int{9, 1000, 100000}[r.Intn(3)]), r.in(0, 100000), r.in(-50, 400)
			log[i].Hour = min(log[i].Hour, 48)
		}
		number := r.in(0, 5)
		text, e := tank.Write(number, log)
		if text != trueText(number, log) || e != api.OK {
			t.Fatalf("%v: Write returns %q %d", log, text, e)
		}
		n, again, row, e := tank.Read(text)
		if n != number || !slices.Equal(again, log) || row != 0 || e != api.OK {
			t.Fatalf("%q: Read returns %d %v %d %d", text, n, again, row, e)
		}
		changed := r.changedText(text)
		if n, again, row, e = tank.Read(changed); e == api.OK {
			read++
			if s, e := tank.Write(n, again); s != changed || row != 0 || e != api.OK {
				t.Fatalf("%q: is read as %v, and written as %q %d", changed, again, s, e)
			}
		}
	}
	if read < 200 {
		t.Error(read, "changed texts were read")
	}
}
