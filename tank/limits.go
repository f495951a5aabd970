package tank

import (
	"sort"

	"homarus/api"
)

// Holds says whether the limits are kept in all scenarios, and returns the first one in which this is not sure.
func Holds(p api.Plant, hours int) (verdict, pump, from int, e api.Errno) {
	if e := Check(p); e != api.OK {
		return 0, 0, 0, e
	}
	if !isHour(hours) {
		return 0, 0, 0, api.ErrRange
	}
	verdict, unsure := api.Sure, scenario{-1, -1}
	for s := range scenarios(len(p.Pumps), hours) {
		now := plantVerdict(p, s, hours)
		if now != api.Sure && verdict == api.Sure {
			verdict, unsure = api.Open, s
		}
		if now == api.Never {
			verdict = api.Never
			break
		}
	}
	return verdict, unsure.pump, unsure.from, api.OK
}

// plantVerdict says whether all tanks keep the limits in all hours of a scenario; Never, if one of them surely breaks them once.
func plantVerdict(p api.Plant, s scenario, hours int) int {
	verdict := api.Sure
	for tank := range p.Tanks {
		switch basinOf(p, tank).verdict(s, hours) {
		case api.Never:
			return api.Never
		case api.Open:
			verdict = api.Open
		}
	}
	return verdict
}

// verdict says whether the tank keeps the limits in all hours of a scenario; Never, if it surely breaks them once.
func (b basin) verdict(s scenario, hours int) int {
	verdict := api.Sure
	for _, known := range b.course(s, hours) {
		switch {
		case b.breaks(known):
			return api.Never
		case !b.keeps(known):
			verdict = api.Open
		}
	}
	return verdict
}

// keeps says whether the limits are surely kept.
func (b basin) keeps(known ends) bool {
	return known[oxygen][lowEnd] >= b.Least && known[ammonia][highEnd] <= b.Most &&
		known[warmth][lowEnd] >= b.Warm.Lo && known[warmth][highEnd] <= b.Warm.Hi
}

// breaks says whether the limits are surely broken.
func (b basin) breaks(known ends) bool {
	return known[oxygen][highEnd] < b.Least || known[ammonia][lowEnd] > b.Most ||
		known[warmth][highEnd] < b.Warm.Lo || known[warmth][lowEnd] > b.Warm.Hi
}

// Room returns the greatest number of grams with which a tank surely keeps the limits in all scenarios.
func Room(p api.Plant, tank, hours int) (int, api.Errno) {
	if e := Check(p); e != api.OK {
		return 0, e
	}
	if !isIndex(tank, len(p.Tanks)) {
		return 0, api.ErrMissing
	}
	if !isHour(hours) {
		return 0, api.ErrRange
	}
	// More animals never leave more oxygen, nor less ammonia.
	tooMany := sort.Search(api.MaxLoad+1, func(grams int) bool {
		b := basinOf(p, tank)
		b.Grams = grams
		return !b.isSafe(hours)
	})
	if tooMany == 0 {
		return 0, api.ErrMissing
	}
	return tooMany - 1, api.OK
}

// isSafe says whether the tank surely keeps the limits in all scenarios.
func (b basin) isSafe(hours int) bool {
	for s := range scenarios(len(b.Pumps), hours) {
		if b.verdict(s, hours) != api.Sure {
			return false
		}
	}
	return true
}
