package tank

import "homarus/api"

// Honest returns how many of the first readings of a tank can be true in one scenario.
func Honest(p api.Plant, tank int, log []api.Reading) (int, api.Errno) {
	if e := Check(p); e != api.OK {
		return 0, e
	}
	if !isIndex(tank, len(p.Tanks)) {
		return 0, api.ErrMissing
	}
	if e := checkLog(log); e != api.OK || len(log) == 0 {
		return 0, e
	}
	most := 0
	for s := range scenarios(len(p.Pumps), lastHour(log)) {
		most = max(most, basinOf(p, tank).fitting(s, log))
	}
	return most, api.OK
}

func lastHour(log []api.Reading) int { return log[len(log)-1].Hour }

// fitting returns how many of the first readings are within what is known in a scenario.
func (b basin) fitting(s scenario, log []api.Reading) int {
	fit := 0
	for hour, known := range b.course(s, lastHour(log)) {
		if hour != log[fit].Hour {
			continue
		}
		if !known.has(log[fit]) {
			break
		}
		fit++
	}
	return fit
}

func (known ends) has(r api.Reading) bool {
	read := [numbers]int{oxygen: r.Oxygen, ammonia: r.Ammonia, warmth: r.Warm}
	for number, n := range read {
		if !within(n, known[number][lowEnd], known[number][highEnd]) {
			return false
		}
	}
	return true
}
