package haul

import (
	"slices"

	"homarus/api"
)

// visited says of each stop whether it is in a plan.
type visited [api.MaxStops]bool

// course is a plan, and how it goes up to its last stop.
type course struct {
	plan               []int
	visited            visited
	place              int
	stay               api.Stay
	fuel, traps, worth int
}

// Run returns how the boat stays at each stop of a plan, and what the plan comes to.
func Run(t api.Tour, plan []int) ([]api.Stay, api.Sum, api.Errno) {
	if e := Check(t); e != api.OK {
		return nil, api.Sum{}, e
	}
	c, stays, e := follow(t, plan)
	if e != api.OK {
		return nil, api.Sum{}, e
	}
	sum, e := goHome(t, c)
	if e != api.OK {
		return nil, api.Sum{}, e
	}
	return stays, sum, api.OK
}

// Late returns by how many minutes Start may be later at most, so that the plan is still possible.
func Late(t api.Tour, plan []int) (int, api.Errno) {
	if _, _, e := Run(t, plan); e != api.OK {
		return 0, e
	}
	// A boat that leaves later comes nowhere earlier: behind the first failure nothing is possible.
	for later := 1; ; later++ {
		t.Start++
		if _, _, e := Run(t, plan); e != api.OK {
			return later - 1, api.OK
		}
	}
}

// leave returns the course of the empty plan.
func leave(t api.Tour) course {
	return course{place: harbour, stay: api.Stay{Done: t.Start}}
}

// follow returns how a plan goes up to its last stop, and the stays at all of them, or the error of the first stop that has one.
func follow(t api.Tour, plan []int) (c course, stays []api.Stay, e api.Errno) {
	c = leave(t)
	for _, stop := range plan {
		if c, e = goOn(t, c, stop); e != api.OK {
			return course{}, nil, e
		}
		stays = append(stays, c.stay)
	}
	return c, stays, api.OK
}

// goOn returns how a plan goes with one stop more, or the error of this stop.
func goOn(t api.Tour, c course, stop int) (course, api.Errno) {
	if stop < 0 || stop >= len(t.Stops) {
		return course{}, api.ErrMissing
	}
	before := c.visited
	c.visited[stop] = true
	if c.visited == before {
		return course{}, api.ErrExists
	}
	s, leg := t.Stops[stop], t.Legs[c.place][placeOf(stop)]
	c.traps += s.Traps
	if c.traps > t.Bait {
		return course{}, api.ErrFull
	}
	arrive := c.stay.Done + leg.Minutes
	begin := max(arrive, s.From)
	if begin > s.To {
		return course{}, api.ErrLate
	}
	c.stay = api.Stay{Arrive: arrive, Begin: begin, Done: begin + s.Work}
	c.place = placeOf(stop)
	c.fuel += leg.Fuel + s.Fuel
	c.worth += s.Worth
	// Plans that begin with the same stops share no memory.
	c.plan = append(slices.Clip(c.plan), stop)
	return c, api.OK
}

// goHome returns what a plan comes to, back in the harbour, or why it is not possible.
func goHome(t api.Tour, c course) (api.Sum, api.Errno) {
	leg := t.Legs[c.place][harbour]
	back, fuel := c.stay.Done+leg.Minutes, c.fuel+leg.Fuel
	if back > t.End {
		return api.Sum{}, api.ErrLate
	}
	if fuel > t.Tank {
		return api.Sum{}, api.ErrOver
	}
	return api.Sum{Back: back, Fuel: fuel, Traps: c.traps, Earn: c.worth - t.Price*fuel}, api.OK
}

// isOpen says whether a plan without a stop that has an error may be the beginning of one that is possible.
func isOpen(t api.Tour, c course) bool { return c.stay.Done <= t.End && c.fuel <= t.Tank }
