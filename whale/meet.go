package whale

import (
	"homarus/api"
	"homarus/ground"
)

// Meet returns the meetings of whales and traps that may be on a day, whale by whale.
func Meet(b api.Bay, w api.Whales, f api.Fleet, l []api.Report, day int) ([]api.Meeting, api.Errno) {
	if e := checkMeet(b, w, f, l, day); e != api.OK {
		return nil, e
	}
	all := watch{b, w, f, l, func(m api.Meeting) int { return m.Verdict }}
	return all.meetings(day), api.OK
}

// Danger returns the meetings with ropes that may hold at a pull.
func Danger(b api.Bay, w api.Whales, f api.Fleet, l []api.Report, ropes []api.Rope, pull, day int) ([]api.Meeting, api.Errno) {
	if e := checkDanger(b, w, f, l, ropes, pull, day); e != api.OK {
		return nil, e
	}
	return dangers(b, w, f, l, ropes, pull).meetings(day), api.OK
}

// Haul returns the traps that are in danger on one of some days, each with the first such day.
func Haul(b api.Bay, w api.Whales, f api.Fleet, l []api.Report, ropes []api.Rope, pull, from, to int) ([]api.Call, api.Errno) {
	if e := checkDanger(b, w, f, l, ropes, pull, from); e != api.OK {
		return nil, e
	}
	switch {
	case !isDay(to):
		return nil, api.ErrRange
	case from > to:
		return nil, api.ErrOrder
	case to-from >= api.MaxWatch:
		return nil, api.ErrFull
	}
	first := make(map[int]int, len(f.Tags))
	danger := dangers(b, w, f, l, ropes, pull)
	for day := range days(from, to) {
		for _, m := range danger.meetings(day) {
			if _, ok := first[m.Tag]; !ok {
				first[m.Tag] = day
			}
		}
	}
	var calls []api.Call
	for tag := range f.Tags {
		if day, ok := first[tag]; ok {
			calls = append(calls, api.Call{Tag: tag, Day: day})
		}
	}
	return calls, api.OK
}

func checkMeet(b api.Bay, w api.Whales, f api.Fleet, l []api.Report, day int) api.Errno {
	if e := Check(b, w); e != api.OK {
		return e
	}
	if _, e := ground.Book(b, f, l); e != api.OK {
		return e
	}
	if !isDay(day) {
		return api.ErrRange
	}
	return api.OK
}

func checkDanger(b api.Bay, w api.Whales, f api.Fleet, l []api.Report, ropes []api.Rope, pull, day int) api.Errno {
	if e := checkMeet(b, w, f, l, day); e != api.OK {
		return e
	}
	if e := CheckRopes(f, ropes); e != api.OK {
		return e
	}
	if !isPull(pull) {
		return api.ErrRange
	}
	return api.OK
}

// watch is whales and traps, and which of their meetings count.
type watch struct {
	bay     api.Bay
	whales  api.Whales
	fleet   api.Fleet
	reports []api.Report
	// verdict returns what a meeting counts as; those that are Never are left out.
	verdict func(m api.Meeting) int
}

// dangers is a watch of the meetings with ropes that may hold at a pull.
func dangers(b api.Bay, w api.Whales, f api.Fleet, l []api.Report, ropes []api.Rope, pull int) watch {
	return watch{b, w, f, l, func(m api.Meeting) int {
		held := holds(ropes[m.Tag], pull)
		if held == api.Sure {
			return m.Verdict
		}
		return held
	}}
}

// meetings returns the meetings of a day that count.
func (w watch) meetings(day int) []api.Meeting {
	spots := w.spots(day)
	var list []api.Meeting
	for whale := range w.whales.Many {
		where := reach(w.bay, w.whales, whale, day)
		for tag, spot := range spots {
			if spot.State != api.TrapOut || !where.has(spot.X, spot.Row) {
				continue
			}
			m := api.Meeting{Whale: whale, Tag: tag, Verdict: api.Open}
			if where.isOneCell() {
				m.Verdict = api.Sure
			}
			if m.Verdict = w.verdict(m); m.Verdict != api.Never {
				list = append(list, m)
			}
		}
	}
	return list
}

// spots returns where the traps are on a day, by their tags.
func (w watch) spots(day int) []api.Spot {
	own := make([][]api.Report, len(w.fleet.Tags))
	for _, r := range w.reports {
		own[r.Tag] = append(own[r.Tag], r)
	}
	list := make([]api.Spot, len(w.fleet.Tags))
	for tag := range list {
		// Reports of other traps say nothing of this one, and all of them would be put in order for each trap.
		list[tag], _ = ground.State(w.bay, w.fleet, own[tag], tag, day)
	}
	return list
}
