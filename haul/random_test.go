package haul_test

import (
	"math/rand"
	"slices"
	"strings"

	"homarus/api"
)

// random makes values; it begins with the same number each time.
type random struct{ *rand.Rand }

func newRandom() random { return random{rand.New(rand.NewSource(1))} }

func (r random) in(low, high int) int { return low + r.Intn(high-low+1) }

// tour returns a valid tour with so many stops at most, of which some can be hauled and some not. Numbers are small, so that plans often earn the same.
func (r random) tour(most int) api.Tour {
	t := api.Tour{Start: r.in(0, 30), Tank: r.in(0, 120), Price: r.in(0, 3), Bait: r.in(0, 15), Legs: [][]api.Leg{{{}}}}
	t.End = t.Start + r.in(0, 150)
	switch r.Intn(3) {
	case 0: // there is enough of everything
		t.End, t.Tank, t.Bait = t.Start+300, 300, 40
	case 1: // there is enough of all but fuel
		t.End, t.Tank, t.Bait = t.Start+300, r.in(0, 50), 40
	}
	for range r.in(0, most) {
		r.addStop(&t)
	}
	return t
}

// addStop adds a stop behind all others, and the legs from it and to it.
func (r random) addStop(t *api.Tour) {
	from := r.in(0, 60)
	t.Stops = append(t.Stops, api.Stop{Traps: r.in(0, 5), Worth: 10 * r.in(0, 6), Work: r.in(0, 20), Fuel: r.in(0, 6), From: from, To: from + r.in(0, 120)})
	var last []api.Leg
	for place := range t.Legs {
		t.Legs[place] = append(t.Legs[place], r.leg())
		last = append(last, r.leg())
	}
	t.Legs = append(t.Legs, append(last, api.Leg{}))
}

func (r random) leg() api.Leg {
	if r.Intn(4) == 0 {
		return api.Leg{}
	}
	return api.Leg{Minutes: r.in(0, 25), Fuel: r.in(0, 15)}
}

// plan returns some of the first so many stops, in any order; a stop may stand twice, or not be there.
func (r random) plan(stops int) []int {
	plan := r.Perm(stops)[:r.in(0, stops)]
	if r.Intn(3) == 0 {
		plan = append(plan, r.in(-1, stops))
		i := r.Intn(len(plan))
		plan[i], plan[len(plan)-1] = plan[len(plan)-1], plan[i]
	}
	return plan
}

// possiblePlan returns a plan that is possible.
func (r random) possiblePlan(t api.Tour) []int {
	plans := slices.DeleteFunc(allPlans(len(t.Stops)), func(plan []int) bool { return !isPossible(t, plan) })
	return plans[r.Intn(len(plans))]
}

// changedText returns a text in which one byte is another one, is missing, or stands twice; or one row.
func (r random) changedText(text string) string {
	i := r.Intn(len(text))
	switch r.Intn(6) {
	case 0:
		return text[:i] + text[i+1:]
	case 1:
		return text[:i] + text[i:i+1] + text[i:]
	case 2, 3:
		rows := strings.SplitAfter(text, "\n")
		i, j := r.Intn(len(rows)), r.Intn(len(rows))
		row := rows[i]
		if r.Intn(3) > 0 {
			rows = slices.Delete(rows, i, i+1)
		}
		if r.Intn(3) > 0 {
			rows = slices.Insert(rows, min(j, len(rows)), row)
		}
		return strings.Join(rows, "")
	}
	const bytes = "0123456789- \ndaystoplegn"
	return text[:i] + bytes[r.Intn(len(bytes)):][:1] + text[i+1:]
}
