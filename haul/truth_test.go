package haul_test

import (
	"regexp"
	"slices"
	"strconv"
	"strings"
	"testing"

	"homarus/api"
	"homarus/haul"
)

// The chapter's section Terms, followed word by word for small tours, plan by plan, and held against what the package says.

// trueStays returns how the boat stays at the stops of a plan, which all have to be there.
func trueStays(t api.Tour, plan []int) []api.Stay {
	place, now := 0, t.Start
	var stays []api.Stay
	for _, stop := range plan {
		s := api.Stay{Arrive: now + t.Legs[place][stop+1].Minutes}
		s.Begin = s.Arrive
		if s.Begin < t.Stops[stop].From {
			s.Begin = t.Stops[stop].From
		}
		s.Done = s.Begin + t.Stops[stop].Work
		place, now = stop+1, s.Done
		stays = append(stays, s)
	}
	return stays
}

// trueFuel returns the fuel of all legs between places, and of all stops among them.
func trueFuel(t api.Tour, places []int) int {
	fuel := 0
	for i, place := range places {
		if i > 0 {
			fuel += t.Legs[places[i-1]][place].Fuel
		}
		if place > 0 {
			fuel += t.Stops[place-1].Fuel
		}
	}
	return fuel
}

// way returns the places of a plan, from the harbour to its last stop.
func way(plan []int) []int {
	places := []int{0}
	for _, stop := range plan {
		places = append(places, stop+1)
	}
	return places
}

func trueTraps(t api.Tour, plan []int) int {
	traps := 0
	for _, stop := range plan {
		traps += t.Stops[stop].Traps
	}
	return traps
}

func trueWorth(t api.Tour, plan []int) int {
	worth := 0
	for _, stop := range plan {
		worth += t.Stops[stop].Worth
	}
	return worth
}

// trueStopError returns the error of the first stop of a plan that has one.
func trueStopError(t api.Tour, plan []int) api.Errno {
	for i, stop := range plan {
		switch {
		case stop < 0 || stop >= len(t.Stops):
			return api.ErrMissing
		case slices.Contains(plan[:i], stop):
			return api.ErrExists
		case trueTraps(t, plan[:i+1]) > t.Bait:
			return api.ErrFull
		case trueStays(t, plan[:i+1])[i].Begin > t.Stops[stop].To:
			return api.ErrLate
		}
	}
	return api.OK
}

// trueDone returns when the boat is done with the last stop.
func trueDone(t api.Tour, plan []int) int {
	if len(plan) == 0 {
		return t.Start
	}
	return trueStays(t, plan)[len(plan)-1].Done
}

// trueRun returns what Run has to.
func trueRun(t api.Tour, plan []int) ([]api.Stay, api.Sum, api.Errno) {
	if e := trueStopError(t, plan); e != api.OK {
		return nil, api.Sum{}, e
	}
	sum := api.Sum{Back: trueDone(t, plan), Traps: trueTraps(t, plan), Fuel: trueFuel(t, append(way(plan), 0))}
	if len(plan) > 0 {
		sum.Back += t.Legs[plan[len(plan)-1]+1][0].Minutes
	}
	if sum.Back > t.End {
		return nil, api.Sum{}, api.ErrLate
	}
	if sum.Fuel > t.Tank {
		return nil, api.Sum{}, api.ErrOver
	}
	sum.Earn = trueWorth(t, plan) - t.Price*sum.Fuel
	return trueStays(t, plan), sum, api.OK
}

func trueOpen(t api.Tour, plan []int) bool {
	if len(plan) == 0 {
		return true
	}
	return trueStopError(t, plan) == api.OK && trueDone(t, plan) <= t.End && trueFuel(t, way(plan)) <= t.Tank
}

// trueLeast returns the least number of the legs that go to a place from another one.
func trueLeast(t api.Tour, place int, number func(api.Leg) int) int {
	var list []int
	for from := range t.Legs {
		if from != place {
			list = append(list, number(t.Legs[from][place]))
		}
	}
	return slices.Min(list)
}

func minutesOf(l api.Leg) int { return l.Minutes }

func fuelOf(l api.Leg) int { return l.Fuel }

// trueBound returns the bound of an open plan.
func trueBound(t api.Tour, plan []int) int {
	bound := trueWorth(t, plan) - t.Price*trueFuel(t, way(plan))
	for stop, s := range t.Stops {
		if slices.Contains(plan, stop) || s.Traps+trueTraps(t, plan) > t.Bait {
			continue
		}
		if trueDone(t, plan)+trueLeast(t, stop+1, minutesOf) > s.To {
			continue
		}
		if gain := s.Worth - t.Price*s.Fuel - t.Price*trueLeast(t, stop+1, fuelOf); gain > 0 {
			bound += gain
		}
	}
	if len(plan) > 0 {
		bound -= t.Price * trueLeast(t, 0, fuelOf)
	}
	return bound
}

// allPlans returns all lists of different stops, in any order.
func allPlans(stops int) [][]int {
	plans := [][]int{nil}
	for i := 0; i < len(plans); i++ {
		for stop := range stops {
			if !slices.Contains(plans[i], stop) {
				plans = append(plans, append(slices.Clone(plans[i]), stop))
			}
		}
	}
	return plans
}

// trueBest returns the best plan of all, and what it earns.
func trueBest(t api.Tour) ([]int, int) {
	var best []int
	earn := 0
	for _, plan := range allPlans(len(t.Stops)) {
		_, sum, e := trueRun(t, plan)
		if e != api.OK || sum.Earn < earn {
			continue
		}
		if sum.Earn > earn || len(plan) < len(best) || len(plan) == len(best) && slices.Compare(plan, best) < 0 {
			best, earn = plan, sum.Earn
		}
	}
	return best, earn
}

// trueProof returns a node, and those that follow it, in the proof for some earnings.
func trueProof(t api.Tour, plan []int, earn int) []api.Node {
	proof := []api.Node{{Plan: plan, Bound: trueBound(t, plan)}}
	if proof[0].Bound <= earn {
		return proof
	}
	for stop := range t.Stops {
		if longer := append(slices.Clone(plan), stop); trueOpen(t, longer) {
			proof = append(proof, trueProof(t, longer, earn)...)
		}
	}
	return proof
}

// trueChart returns the chart of a tour, be it valid or not.
func trueChart(t api.Tour) string {
	var text strings.Builder
	row := func(word string, numbers ...int) {
		text.WriteString(word)
		for _, n := range numbers {
			text.WriteString(" " + strconv.Itoa(n))
		}
		text.WriteString("\n")
	}
	row("day", t.Start, t.End, t.Tank, t.Price, t.Bait)
	for _, s := range t.Stops {
		row("stop", s.Traps, s.Worth, s.Work, s.Fuel, s.From, s.To)
	}
	for _, legs := range t.Legs {
		var numbers []int
		for _, leg := range legs {
			numbers = append(numbers, leg.Minutes, leg.Fuel)
		}
		row("legs", numbers...)
	}
	row("end", len(t.Stops))
	return text.String()
}

// isPossible says whether a plan is possible.
func isPossible(t api.Tour, plan []int) bool {
	_, _, e := trueRun(t, plan)
	return e == api.OK
}

func sameNodes(a, b []api.Node) bool {
	return slices.EqualFunc(a, b, func(a, b api.Node) bool { return a.Bound == b.Bound && slices.Equal(a.Plan, b.Plan) })
}

// P3.1, P3.13: each plan, be it possible or not, goes as the section says; the boat begins no stop before it arrives, nor outside its hours.
func TestRunIsTrue(t *testing.T) {
	r := newRandom()
	found := map[api.Errno]int{}
	for range 6000 {
		tour, plan := r.tour(5), r.plan(5)
		stays, sum, e := haul.Run(tour, plan)
		trueStays, trueSum, want := trueRun(tour, plan)
		if !slices.Equal(stays, trueStays) || sum != trueSum || e != want {
			t.Fatalf("Run(%v, %v) returns %v %v %d, not %v %v %d", tour, plan, stays, sum, e, trueStays, trueSum, want)
		}
		found[e]++
		worth := 0
		for i, s := range stays {
			stop := tour.Stops[plan[i]]
			worth += stop.Worth
			if s.Begin < s.Arrive || s.Begin < stop.From || s.Begin > stop.To || s.Done != s.Begin+stop.Work {
				t.Fatalf("Run(%v, %v) returns %v", tour, plan, stays)
			}
		}
		if e == api.OK && (sum.Earn != worth-tour.Price*sum.Fuel || sum.Back > tour.End || sum.Fuel > tour.Tank || sum.Traps > tour.Bait) {
			t.Fatalf("Run(%v, %v) returns %v", tour, plan, sum)
		}
	}
	for _, e := range []api.Errno{api.OK, api.ErrMissing, api.ErrExists, api.ErrFull, api.ErrLate, api.ErrOver} {
		if found[e] < 100 {
			t.Errorf("Run has returned %d only %d times", e, found[e])
		}
	}
}

// P3.2, P3.7: no plan of all is better than the best one.
func TestBestOfAllPlans(t *testing.T) {
	r := newRandom()
	long := map[int]int{}
	for range 1500 {
		tour := r.tour(5)
		plan, earn, e := haul.Best(tour)
		want, most := trueBest(tour)
		if !slices.Equal(plan, want) || earn != most || e != api.OK {
			t.Fatalf("Best(%v) returns %v %d %d, not %v %d", tour, plan, earn, e, want, most)
		}
		_, sum, e := haul.Run(tour, plan)
		if e != api.OK || sum.Earn != earn {
			t.Fatalf("Best(%v) returns %v %d, but it earns %d %d", tour, plan, earn, sum.Earn, e)
		}
		long[len(plan)]++
	}
	for stops := range 5 {
		if long[stops] < 50 {
			t.Errorf("only %d plans of %d stops were the best ones", long[stops], stops)
		}
	}
}

// P3.2, P3.3: the same with as many stops as there may be.
func TestBestOfEightStops(t *testing.T) {
	r := newRandom()
	for range 3 {
		tour := r.tour(0)
		for len(tour.Stops) < 8 {
			tour = r.tour(8)
		}
		plan, earn, e := haul.Best(tour)
		if want, most := trueBest(tour); !slices.Equal(plan, want) || earn != most || e != api.OK {
			t.Fatalf("Best(%v) returns %v %d %d, not %v %d", tour, plan, earn, e, want, most)
		}
		checkProof(t, tour)
	}
}

// P3.3, P3.8: bounds are as the section says, and no possible plan that begins with an open one earns more than its bound.
func TestBoundIsTrue(t *testing.T) {
	r := newRandom()
	open, clash, reached := 0, 0, 0
	for range 300 {
		tour := r.tour(4)
		plans := allPlans(len(tour.Stops))
		for _, plan := range plans {
			bound, e := haul.Bound(tour, plan)
			if want := trueStopError(tour, plan); want != api.OK {
				if e != want || bound != 0 {
					t.Fatalf("Bound(%v, %v) returns %d %d, not %d", tour, plan, bound, e, want)
				}
				continue
			}
			if !trueOpen(tour, plan) {
				clash++
				if e != api.ErrClash || bound != 0 {
					t.Fatalf("Bound(%v, %v) returns %d %d, but the plan is not open", tour, plan, bound, e)
				}
				continue
			}
			open++
			if want := trueBound(tour, plan); bound != want || e != api.OK {
				t.Fatalf("Bound(%v, %v) returns %d %d, not %d", tour, plan, bound, e, want)
			}
			for _, longer := range plans {
				if len(longer) < len(plan) || !slices.Equal(longer[:len(plan)], plan) {
					continue
				}
				_, sum, e := haul.Run(tour, longer)
				if e == api.OK && sum.Earn > bound {
					t.Fatalf("%v: %v earns %d, but Bound of %v is %d", tour, longer, sum.Earn, plan, bound)
				}
				if e == api.OK && sum.Earn == bound {
					reached++
				}
			}
		}
	}
	if open < 1000 || clash < 100 || reached < 100 {
		t.Errorf("only %d plans were open, %d not, and %d reached a bound", open, clash, reached)
	}
}

// checkProof checks the proof of a tour, and that it proves the best plan.
func checkProof(t *testing.T, tour api.Tour) (proof []api.Node) {
	t.Helper()
	best, earn := trueBest(tour)
	proof, e := haul.Prove(tour)
	want := trueProof(tour, nil, earn)
	if len(want) > 3000 {
		if e != api.ErrFull || len(proof) > 0 {
			t.Fatalf("Prove(%v) returns %d nodes, %d, not ErrFull for %d nodes", tour, len(proof), e, len(want))
		}
	} else if !sameNodes(proof, want) || e != api.OK {
		t.Fatalf("Prove(%v) returns %v %d, not %v", tour, proof, e, want)
	}
	if proved, e := haul.Proved(tour, best, want); !proved || e != api.OK {
		t.Fatalf("Proved(%v, %v, its proof) returns %t %d", tour, best, proved, e)
	}
	return want
}

// P3.3, P3.4, P3.9: Prove proves the best plan; and a plan is proved by the proof for what it earns, if it is one of those that earn most of all in it.
func TestProofIsTrue(t *testing.T) {
	r := newRandom()
	proved, beaten := 0, 0
	for range 400 {
		tour := r.tour(4)
		checkProof(t, tour)
		_, most := trueBest(tour)
		plan := r.possiblePlan(tour)
		_, sum, e := trueRun(tour, plan)
		proof := trueProof(tour, nil, sum.Earn)
		yes, f := haul.Proved(tour, plan, proof)
		better := slices.ContainsFunc(proof, func(n api.Node) bool {
			_, other, e := trueRun(tour, n.Plan)
			return e == api.OK && other.Earn > sum.Earn
		})
		if e != api.OK || f != api.OK || yes == better || yes && sum.Earn < most {
			t.Fatalf("Proved(%v, %v, its proof) returns %t %d, but it earns %d of %d", tour, plan, yes, f, sum.Earn, most)
		}
		if yes {
			proved++
		} else {
			beaten++
		}
	}
	if proved < 50 || beaten < 50 {
		t.Errorf("only %d plans were proved, and %d beaten", proved, beaten)
	}
}

// P3.9: a proof of which a node is changed, left out, or doubled proves nothing.
func TestChangedProofs(t *testing.T) {
	r := newRandom()
	for range 400 {
		tour := r.tour(4)
		proof := checkProof(t, tour)
		best, _, _ := haul.Best(tour)
		i := r.Intn(len(proof))
		changes := map[string][]api.Node{
			"a node less":          slices.Delete(slices.Clone(proof), i, i+1),
			"a node twice":         slices.Insert(slices.Clone(proof), i, proof[i]),
			"a node at the end":    append(slices.Clone(proof), proof[i]),
			"a greater bound":      changedNode(proof, i, func(n *api.Node) { n.Bound++ }),
			"a lesser bound":       changedNode(proof, i, func(n *api.Node) { n.Bound-- }),
			"a longer plan":        changedNode(proof, i, func(n *api.Node) { n.Plan = append(slices.Clone(n.Plan), r.in(-1, 4)) }),
			"another, longer plan": changedNode(proof, i, func(n *api.Node) { n.Plan = append([]int{r.in(-1, 4)}, n.Plan...) }),
		}
		if len(proof[i].Plan) > 0 {
			changes["a shorter plan"] = changedNode(proof, i, func(n *api.Node) { n.Plan = n.Plan[1:] })
			changes["another plan"] = changedNode(proof, i, func(n *api.Node) { n.Plan = slices.Clone(n.Plan); n.Plan[0]++ })
		}
		if j := r.Intn(len(proof)); j != i {
			changed := slices.Clone(proof)
			changed[i], changed[j] = changed[j], changed[i]
			changes["two nodes changed about"] = changed
		}
		for name, changed := range changes {
			if proved, e := haul.Proved(tour, best, changed); proved || e != api.OK {
				t.Fatalf("%s: Proved(%v, %v, %v) returns %t %d", name, tour, best, changed, proved, e)
			}
		}
	}
}

// changedNode returns the proof with a change of a node.
func changedNode(proof []api.Node, i int, change func(n *api.Node)) []api.Node {
	proof = slices.Clone(proof)
	change(&proof[i])
	return proof
}

// P3.5, P3.10: with as many minutes as Late says the plan is possible, and with each number less; with more it is not, or the tour is not valid.
func TestLateIsTrue(t *testing.T) {
	r := newRandom()
	found := map[api.Errno]int{}
	ends, waits := 0, 0
	for range 3000 {
		tour, plan := r.tour(4), r.plan(4)
		if r.Intn(2) == 0 {
			plan = r.possiblePlan(tour)
		}
		late, e := haul.Late(tour, plan)
		_, _, want := trueRun(tour, plan)
		found[e]++
		if e != want || e != api.OK && late != 0 {
			t.Fatalf("Late(%v, %v) returns %d %d, not %d", tour, plan, late, e, want)
		}
		if e != api.OK {
			continue
		}
		later := tour
		for minutes := range tour.End - tour.Start + 2 {
			later.Start = tour.Start + minutes
			if valid := later.Start <= later.End; (minutes <= late) != (valid && isPossible(later, plan)) {
				t.Fatalf("Late(%v, %v) returns %d, but with %d it is otherwise", tour, plan, late, minutes)
			}
		}
		if late == tour.End-tour.Start {
			ends++
		} else if late > 0 {
			waits++
		}
	}
	for _, e := range []api.Errno{api.OK, api.ErrMissing, api.ErrExists, api.ErrFull, api.ErrLate, api.ErrOver} {
		if found[e] < 30 {
			t.Errorf("Late has returned %d only %d times", e, found[e])
		}
	}
	if ends < 100 || waits < 100 {
		t.Errorf("only %d plans could be late until the end, and %d by some minutes", ends, waits)
	}
}

// P3.11: with more fuel, more bait, a later End, or a stop more, the best plan does not earn less.
func TestMoreEarnsNoLess(t *testing.T) {
	r := newRandom()
	more := map[string]int{}
	for range 2000 {
		tour := r.tour(4)
		_, earn, e := haul.Best(tour)
		for name, change := range map[string]func(t *api.Tour){
			"fuel": func(t *api.Tour) { t.Tank += r.in(1, 60) },
			"bait": func(t *api.Tour) { t.Bait += r.in(1, 10) },
			"End":  func(t *api.Tour) { t.End += r.in(1, 60) },
			"stop": func(t *api.Tour) { r.addStop(t) },
		} {
			other := cloneTour(tour)
			change(&other)
			_, most, f := haul.Best(other)
			if e != api.OK || f != api.OK || most < earn {
				t.Fatalf("Best(%v) earns %d, but with more %s only %d (%d)", tour, earn, name, most, f)
			}
			if most > earn {
				more[name]++
			}
		}
	}
	for _, name := range []string{"fuel", "bait", "End", "stop"} {
		if more[name] < 50 {
			t.Errorf("more %s has earned more only %d times", name, more[name])
		}
	}
}

// P3.12: if stops get other numbers, the best plan earns the same.
func TestStopsNamedAnew(t *testing.T) {
	r := newRandom()
	for range 600 {
		tour := r.tour(5)
		order := r.Perm(len(tour.Stops))
		other := cloneTour(tour)
		places := append([]int{0}, make([]int, len(order))...)
		for now, before := range order {
			other.Stops[now] = tour.Stops[before]
			places[now+1] = before + 1
		}
		for a := range places {
			for b := range places {
				other.Legs[a][b] = tour.Legs[places[a]][places[b]]
			}
		}
		_, earn, e := haul.Best(tour)
		if _, same, f := haul.Best(other); same != earn || e != api.OK || f != api.OK {
			t.Fatalf("Best(%v) earns %d %d, but %d %d if stops are numbered as %v", tour, earn, e, same, f, order)
		}
	}
}

// trueRow returns the number of the first row of a chart that is not as P3.6 says, 0 if there is none.
func trueRow(text string) int {
	const number = ` (0|[1-9][0-9]{0,6})`
	day, stop := regexp.MustCompile(`^day(`+number+`){5}\n$`), regexp.MustCompile(`^stop(`+number+`){6}\n$`)
	legs, end := regexp.MustCompile(`^legs(`+number+number+`)*\n$`), regexp.MustCompile(`^end`+number+`\n$`)
	stops, hasLegs := 0, false
	rows := strings.SplitAfter(text, "\n")
	for i, row := range rows {
		switch {
		case i == 0 && day.MatchString(row):
		case i > 0 && stop.MatchString(row) && !hasLegs:
			stops++
		case i > 0 && legs.MatchString(row):
			hasLegs = true
		case i > 0 && end.MatchString(row) && end.FindStringSubmatch(row)[1] == strconv.Itoa(stops):
			if rows[i+1] != "" {
				return i + 2
			}
			return 0
		default:
			return i + 1
		}
	}
	return len(rows) + 1
}

// P3.6, P3.14: a chart is read as its tour, and what is read is written as it was; otherwise the first row that is wrong is named.
func TestChartsThereAndBack(t *testing.T) {
	r := newRandom()
	found, wrong := map[api.Errno]int{}, 0
	for range 4000 {
		tour := r.tour(8)
		text, e := haul.Write(tour)
		if want := trueChart(tour); text != want || e != api.OK {
			t.Fatalf("%v is written as %q %d, not %q", tour, text, e, want)
		}
		if back, row, e := haul.Read(text); !sameTour(back, tour) || row != 0 || e != api.OK {
			t.Fatalf("%q is read as %v %d %d", text, back, row, e)
		}
		other := r.changedText(text)
		back, row, e := haul.Read(other)
		if want := trueRow(other); row != want || want > 0 && e != api.ErrForm || e != api.OK && !isZero(back) {
			t.Fatalf("%q is read as %v %d %d, but the row %d is wrong", other, back, row, e, want)
		}
		if row > 0 {
			wrong++
		} else {
			found[e]++
		}
		if e != api.OK {
			continue
		}
		if again, e := haul.Write(back); again != other || e != api.OK {
			t.Fatalf("%q is read as %v, and written as %q %d", other, back, again, e)
		}
	}
	for _, e := range []api.Errno{api.OK, api.ErrForm, api.ErrRange, api.ErrOrder} {
		if found[e] < 10 || wrong < 1000 {
			t.Errorf("only these charts have been read: %v, and %d with a wrong row", found, wrong)
		}
	}
}
