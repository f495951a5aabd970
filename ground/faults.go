package ground

import "homarus/api"

// noTag is the Tag of a fault that is not one of a single trap.
const noTag = -1

// Faults returns what is wrong on a day: trap by trap, and then licence by licence.
func Faults(b api.Bay, f api.Fleet, l []api.Report, day int) ([]api.Fault, api.Errno) {
	book, e := Book(b, f, l)
	if e != api.OK {
		return nil, e
	}
	if !isDay(day) {
		return nil, api.ErrRange
	}
	var list []api.Fault
	add := func(wrong bool, kind, tag, licence int) {
		if wrong {
			list = append(list, api.Fault{Kind: kind, Tag: tag, Licence: licence})
		}
	}
	now := spots(f, book, day)
	for tag, spot := range now {
		n := f.Tags[tag]
		licence, out := f.Licences[n], spot.State == api.TrapOut
		add(out && !inYear(day, licence.Days), api.FaultSeason, tag, n)
		add(out && holder(b, day, spot.X, spot.Row) != licence.Gang, api.FaultPlace, tag, n)
		add(spot.State == api.TrapGhost, api.FaultGhost, tag, n)
	}
	for n, many := range countOut(f, now) {
		add(many > f.Licences[n].Most, api.FaultMany, noTag, n)
	}
	return list, api.OK
}

// countOut returns for each licence how many traps are out that count for it: its own, and those of its apprentices.
func countOut(f api.Fleet, now []api.Spot) []int {
	counts := make([]int, len(f.Licences))
	for tag, spot := range now {
		if spot.State != api.TrapOut {
			continue
		}
		n := f.Tags[tag]
		counts[n]++
		if master := f.Licences[n].Master; master != noMaster {
			counts[master]++
		}
	}
	return counts
}
