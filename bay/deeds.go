package bay

import (
	"slices"

	"homarus/api"
	"homarus/catch"
	"homarus/ground"
	"homarus/trade"
	"homarus/whale"
)

// done is the reply to a line that is done, if there is nothing else to say.
const done = "ok"

func (d *desk) goOn(n []int) (string, api.Errno) {
	day := n[0]
	if !within(day, d.Day, api.LastDay) {
		return "", api.ErrRange
	}
	d.Day = day
	return done, api.OK
}

func (d *desk) set(n []int) (string, api.Errno) {
	tag, x, row := n[0], n[1], n[2]
	number := d.Fleet.Tags[tag]
	licence := d.Fleet.Licences[number]
	gang, e := ground.Holder(d.Bay, d.Day, x, row)
	switch {
	case e != api.OK:
		return "", e
	case d.spot(tag).State != api.TrapHome:
		return "", api.ErrState
	case !within(d.Day%api.YearDays, licence.Days.Lo, licence.Days.Hi):
		return "", api.ErrLate
	case gang != licence.Gang:
		return "", api.ErrClash
	case !d.hasRoom(number):
		return "", api.ErrFull
	case d.Ropes[tag].Kind != api.RopeNone && d.isShut(x, row):
		return "", api.ErrOpen
	}
	return d.report(api.Report{Tag: tag, Day: d.Day, Kind: api.ReportSet, X: x, Row: row})
}

func (d *desk) haul(n []int) (string, api.Errno) {
	tag := n[0]
	isLate := func(r api.Report) bool {
		return r.Tag == tag && r.Day == d.Day && r.Kind != api.ReportHaul
	}
	switch {
	case d.spot(tag).State == api.TrapHome:
		return "", api.ErrState
	// Of one day a haul counts first: the trap would not be at home.
	case slices.ContainsFunc(d.Reports, isLate):
		return "", api.ErrLate
	}
	return d.report(api.Report{Tag: tag, Day: d.Day, Kind: api.ReportHaul})
}

func (d *desk) see(n []int) (string, api.Errno) {
	d.Reports = append(d.Reports, api.Report{Tag: n[0], Day: d.Day, Kind: api.ReportSeen, X: n[1], Row: n[2]})
	_, e := ground.Book(d.Bay, d.Fleet, d.Reports)
	return done, e
}

func (d *desk) cut(n []int) (string, api.Errno) {
	tag := n[0]
	if d.spot(tag).State != api.TrapOut {
		return "", api.ErrState
	}
	return d.report(api.Report{Tag: tag, Day: d.Day, Kind: api.ReportCut})
}

// report adds a report, if there may be one more.
func (d *desk) report(r api.Report) (string, api.Errno) {
	if len(d.Reports) >= api.MaxReports {
		return "", api.ErrFull
	}
	d.Reports = append(d.Reports, r)
	return done, api.OK
}

func (d *desk) take(n []int) (string, api.Errno) {
	tag := n[0]
	animal := api.Caught{Size: api.Span{Lo: n[1], Hi: n[2]}, Sex: n[3], Eggs: n[4], Notch: n[5], Shell: n[6]}
	if !slices.Contains(d.Reports, api.Report{Tag: tag, Day: d.Day, Kind: api.ReportHaul}) {
		return "", api.ErrState
	}
	keep, e := catch.Keep(d.Gauge, animal)
	switch {
	case e != api.OK:
		return "", e
	case d.pulled(tag) >= api.MaxPulled || len(d.Taken) >= api.MaxTaken:
		return "", api.ErrFull
	}
	taken := api.Taken{Tag: tag, Day: d.Day, Animal: animal, Fate: api.FateBack}
	if keep == api.Sure {
		taken.Fate = api.FateKept
	}
	d.Taken = append(d.Taken, taken)
	return fateOf(taken), api.OK
}

// pulled returns how many animals of a trap were taken on this day.
func (d *desk) pulled(tag int) int {
	many := 0
	for _, t := range d.Taken {
		if t.Tag == tag && t.Day == d.Day {
			many++
		}
	}
	return many
}

// fateOf returns the reply that says what became of an animal.
func fateOf(t api.Taken) string {
	switch {
	case t.Fate == api.FateKept:
		return "kept"
	case t.Animal.Eggs == api.Sure:
		return "back notched"
	}
	return "back"
}

func (d *desk) sight(n []int) (string, api.Errno) {
	number := n[0]
	if number > d.seen() {
		return "", api.ErrMissing
	}
	d.Sights = append(d.Sights, api.Sight{Whale: number, Day: d.Day, X: api.Span{Lo: n[1], Hi: n[2]}, Rows: api.Span{Lo: n[3], Hi: n[4]}})
	if e := whale.Check(d.Bay, api.Whales{Many: d.seen(), Speed: d.Speed, Sights: d.Sights}); e != api.OK {
		return "", e
	}
	now, _ := d.whales()
	calls, e := whale.Haul(d.Bay, now, d.Fleet, d.Reports, d.Ropes, d.Pull, d.Day, min(d.Day+d.Ahead, api.LastDay))
	if e != api.OK || len(calls) == 0 {
		return done, e
	}
	said := []string{"haul"}
	for _, c := range calls {
		said = append(said, numbers(c.Tag, c.Day))
	}
	return row(said...), api.OK
}

func (d *desk) buy(n []int) (string, api.Errno) {
	if d.events(api.EventBuy)+n[1]-d.events(api.EventBack) > len(d.with(api.FateKept)) {
		return "", api.ErrShort
	}
	return d.trade(api.EventBuy, n[0], n[1], n[2])
}

func (d *desk) die(n []int) (string, api.Errno) { return d.trade(api.EventDie, n[0], n[1], n[2]) }

func (d *desk) sell(n []int) (string, api.Errno) { return d.trade(api.EventSell, n[0], n[1], n[2]) }

func (d *desk) back(n []int) (string, api.Errno) { return d.trade(api.EventBack, n[0], n[1], n[2]) }

func (d *desk) drip(n []int) (string, api.Errno) { return d.trade(api.EventDrip, n[0], 0, n[1]) }

// trade adds an event, if the ledger is valid with it.
func (d *desk) trade(kind, grade, count, grams int) (string, api.Errno) {
	d.Events = append(d.Events, api.Event{Kind: kind, Grade: grade, Count: count, Grams: grams})
	_, e := trade.Book(d.Market, d.Events)
	return done, e
}
