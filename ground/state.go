package ground

import "homarus/api"

// State returns the state of a trap on a day, where it is, and since when it has that state.
func State(b api.Bay, f api.Fleet, l []api.Report, tag, day int) (api.Spot, api.Errno) {
	book, e := Book(b, f, l)
	if e != api.OK {
		return api.Spot{}, e
	}
	if !isIndex(tag, len(f.Tags)) {
		return api.Spot{}, api.ErrMissing
	}
	if !isDay(day) {
		return api.Spot{}, api.ErrRange
	}
	return spots(f, book, day)[tag], api.OK
}

// trap is a trap, as the reports of it that were read so far say.
type trap api.Spot

func (t trap) haul(api.Report) trap { return trap{State: api.TrapHome, Since: t.Since} }

func (t trap) set(r api.Report) trap {
	return trap{State: api.TrapOut, X: r.X, Row: r.Row, Since: t.Since}
}

func (t trap) see(r api.Report) trap {
	if t.State != api.TrapGhost {
		t.State = api.TrapOut
	}
	t.X, t.Row = r.X, r.Row
	return t
}

func (t trap) cut(api.Report) trap {
	if t.State == api.TrapOut {
		t.State = api.TrapGhost
	}
	return t
}

// spots returns the states of all traps on a day, by their tags.
func spots(f api.Fleet, book []api.Report, day int) []api.Spot {
	after := map[int]func(trap, api.Report) trap{
		api.ReportHaul: trap.haul,
		api.ReportSet:  trap.set,
		api.ReportSeen: trap.see,
		api.ReportCut:  trap.cut,
	}
	list := make([]api.Spot, len(f.Tags))
	for tag := range list {
		list[tag].State = api.TrapHome
	}
	for _, r := range book {
		if r.Day > day {
			continue
		}
		old := list[r.Tag]
		now := api.Spot(after[r.Kind](trap(old), r))
		if now.State != old.State {
			now.Since = r.Day
		}
		list[r.Tag] = now
	}
	return list
}
