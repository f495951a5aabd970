package growth

import "homarus/api"

// Settle returns the least and the greatest number of larvae that may settle in some days.
func Settle(n api.Nursery, days, larvae []api.Span) (api.Span, api.Errno) {
	if e := checkNursery(n); e != api.OK {
		return api.Span{}, e
	}
	if len(days) > api.MaxSeason {
		return api.Span{}, api.ErrFull
	}
	if len(larvae) != len(days) {
		return api.Span{}, api.ErrForm
	}
	var sum api.Span
	for i, warmth := range days {
		if e := checkWarmth(warmth); e != api.OK {
			return api.Span{}, e
		}
		if e := checkSpan(larvae[i], 0, api.MaxHerd); e != api.OK {
			return api.Span{}, e
		}
		if n.Low <= warmth.Lo && warmth.Hi <= n.High {
			sum.Lo += partDown(larvae[i].Lo, n.Rate)
		}
		if warmth.Lo <= n.High && n.Low <= warmth.Hi {
			sum.Hi += partUp(larvae[i].Hi, n.Rate)
		}
	}
	return api.Span{Lo: min(sum.Lo, n.Room), Hi: min(sum.Hi, n.Room)}, api.OK
}

func checkNursery(n api.Nursery) api.Errno {
	if !within(n.Low, api.LeastWarm, api.MostWarm) || !within(n.High, api.LeastWarm, api.MostWarm) {
		return api.ErrRange
	}
	if !within(n.Rate, 0, api.Mil) || !within(n.Room, 0, api.MaxHerd) {
		return api.ErrRange
	}
	if n.Low > n.High {
		return api.ErrOrder
	}
	return api.OK
}
