// Package growth is layer 1: how lobsters grow, moult by moult, as fast as the water is warm. See shared/doc/01-growth.md.
package growth

import "homarus/api"

// Check returns the first error of a growth, otherwise OK.
func Check(g api.Growth) api.Errno {
	if !within(g.Base, api.LeastWarm, api.MostWarm) || !isSize(g.Most) {
		return api.ErrRange
	}
	if len(g.Stages) == 0 {
		return api.ErrShort
	}
	if len(g.Stages) > api.MaxStages {
		return api.ErrFull
	}
	for i := range g.Stages {
		if e := checkStage(g.Stages, i); e != api.OK {
			return e
		}
	}
	return api.OK
}

func checkStage(stages []api.Stage, i int) api.Errno {
	stage := stages[i]
	if !isSize(stage.From) {
		return api.ErrRange
	}
	if i == 0 && stage.From != 0 || i > 0 && stage.From <= stages[i-1].From {
		return api.ErrOrder
	}
	if e := checkSpan(stage.Need, 1, api.MaxNeed); e != api.OK {
		return e
	}
	return checkSpan(stage.Step, 0, api.MaxStep)
}

// Heat returns the least and the greatest heat that the days may have together.
func Heat(g api.Growth, days []api.Span) (api.Span, api.Errno) {
	if e := Check(g); e != api.OK {
		return api.Span{}, e
	}
	if len(days) > api.MaxSeason {
		return api.Span{}, api.ErrFull
	}
	var sum api.Span
	for _, warmth := range days {
		if e := checkWarmth(warmth); e != api.OK {
			return api.Span{}, e
		}
		sum.Lo += max(warmth.Lo-g.Base, 0)
		sum.Hi += max(warmth.Hi-g.Base, 0)
	}
	return sum, api.OK
}

// checkSpan returns the error of a span whose numbers have to be from low to high.
func checkSpan(s api.Span, low, high int) api.Errno {
	if !within(s.Lo, low, high) || !within(s.Hi, low, high) {
		return api.ErrRange
	}
	if s.Lo > s.Hi {
		return api.ErrOrder
	}
	return api.OK
}

func checkWarmth(s api.Span) api.Errno { return checkSpan(s, api.LeastWarm, api.MostWarm) }

func checkHeat(s api.Span) api.Errno { return checkSpan(s, 0, api.MaxHeat) }

func checkSizes(s api.Span) api.Errno { return checkSpan(s, 0, api.MaxSize) }

func within(n, low, high int) bool { return low <= n && n <= high }

func isSize(n int) bool { return within(n, 0, api.MaxSize) }

// partDown returns the part (per Mil) of a number, rounded down.
func partDown(n, part int) int { return n * part / api.Mil }

// partUp returns the part (per Mil) of a number, rounded up.
func partUp(n, part int) int { return (n*part + api.Mil - 1) / api.Mil }
