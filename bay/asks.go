package bay

import (
	"homarus/api"
	"homarus/catch"
	"homarus/ground"
	"homarus/trade"
	"homarus/whale"
)

func (d *desk) where(n []int) (string, api.Errno) {
	spot := d.spot(n[0])
	if spot.State == api.TrapHome {
		return "home", api.OK
	}
	return row(stateWord(spot), numbers(spot.X, spot.Row)), api.OK
}

// stateWord returns the word for the state of a trap that is not at home.
func stateWord(spot api.Spot) string {
	if spot.State == api.TrapGhost {
		return "ghost"
	}
	return "out"
}

func (d *desk) holder(n []int) (string, api.Errno) {
	gang, e := ground.Holder(d.Bay, d.Day, n[0], n[1])
	return numbers(gang), e
}

func (d *desk) faults([]int) (string, api.Errno) {
	list, e := ground.Faults(d.Bay, d.Fleet, d.Reports, d.Day)
	var said []string
	for _, f := range list {
		said = append(said, faultRow(f))
	}
	return orNone(said), e
}

func faultRow(f api.Fault) string {
	switch f.Kind {
	case api.FaultSeason:
		return row("season", numbers(f.Tag))
	case api.FaultPlace:
		return row("place", numbers(f.Tag))
	case api.FaultGhost:
		return row("ghost", numbers(f.Tag))
	}
	return row("many", numbers(f.Licence))
}

func (d *desk) danger([]int) (string, api.Errno) {
	whales, own := d.whales()
	list, e := whale.Danger(d.Bay, whales, d.Fleet, d.Reports, d.Ropes, d.Pull, d.Day)
	var said []string
	for _, m := range list {
		word := "open"
		if m.Verdict == api.Sure {
			word = "sure"
		}
		said = append(said, numbers(own[m.Whale], m.Tag), word)
	}
	return orNone(said), e
}

// orNone returns what is said in one line, also if that is nothing.
func orNone(said []string) string {
	if len(said) == 0 {
		return "none"
	}
	return row(said...)
}

func (d *desk) count(n []int) (string, api.Errno) {
	// An animal with one of some sizes is one that may be kept by the gauge of these sizes, which asks for nothing else.
	sizes := api.Gauge{Low: n[0], High: n[1]}
	if e := catch.Check(sizes); e != api.OK {
		return "", e
	}
	least, most := 0, 0
	for _, c := range d.with(api.FateKept) {
		switch keep, _ := catch.Keep(sizes, c); keep {
		case api.Sure:
			least++
			most++
		case api.Open:
			most++
		}
	}
	return numbers(least, most), api.OK
}

func (d *desk) left(n []int) (string, api.Errno) {
	balances, e := trade.Book(d.Market, d.Events)
	if e != api.OK {
		return "", e
	}
	left := balances[n[0]].Left
	return numbers(left[:]...), api.OK
}
