package tank

import (
	"iter"

	"homarus/api"
)

// noPump stands for the pump that fails if none does.
const noPump = -1

// scenario is which pump fails, and from which hour on.
type scenario struct{ pump, from int }

// works says whether a pump works from an hour to the next one.
func (s scenario) works(pump, hour int) bool { return pump != s.pump || hour < s.from }

// scenarios hands out the scenarios for some hours, in their order.
func scenarios(pumps, hours int) iter.Seq[scenario] {
	return func(yield func(scenario) bool) {
		if !yield(scenario{pump: noPump}) {
			return
		}
		for pump := range pumps {
			for from := range hours {
				if !yield(scenario{pump, from}) {
					return
				}
			}
		}
	}
}

// Run returns what is known of the water in a scenario, hour by hour, and in each hour tank by tank.
func Run(p api.Plant, pump, from, hours int) ([][]api.Water, api.Errno) {
	if e := Check(p); e != api.OK {
		return nil, e
	}
	if pump != noPump && !isIndex(pump, len(p.Pumps)) {
		return nil, api.ErrMissing
	}
	if !isHour(from) || !isHour(hours) {
		return nil, api.ErrRange
	}
	list := make([][]api.Water, hours+1)
	for tank := range p.Tanks {
		for hour, known := range basinOf(p, tank).course(scenario{pump, from}, hours) {
			list[hour] = append(list[hour], known.water())
		}
	}
	return list, api.OK
}
