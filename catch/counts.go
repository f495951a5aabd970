package catch

import (
	"homarus/api"
	"homarus/growth"
)

// Counts returns for each class the least and the greatest number of animals whose true size may be in it.
func Counts(edges []int, l []api.Caught) ([]api.Span, api.Errno) {
	// Only the edges are asked for: it does not matter in which class the size 0 is, if it is in one.
	if _, e := growth.Class(edges, 0); e != api.OK && e != api.ErrMissing {
		return nil, e
	}
	if e := checkMany(l); e != api.OK {
		return nil, e
	}
	counts := make([]api.Span, len(edges)-1)
	for _, c := range l {
		for i := range counts {
			switch inside(c.Size, edges[i], edges[i+1]-1) {
			case api.Sure:
				counts[i].Lo++
				counts[i].Hi++
			case api.Open:
				counts[i].Hi++
			}
		}
	}
	return counts, api.OK
}

// Weight returns the least and the greatest weight that the animals may have together.
func Weight(bulk int, l []api.Caught) (api.Span, api.Errno) {
	if !within(bulk, 1, api.MaxBulk) {
		return api.Span{}, api.ErrRange
	}
	if e := checkMany(l); e != api.OK {
		return api.Span{}, e
	}
	var sum api.Span
	for _, c := range l {
		sum.Lo += cube(c.Size.Lo) / bulk
		sum.Hi += (cube(c.Size.Hi) + bulk - 1) / bulk
	}
	return sum, api.OK
}

// checkMany returns the first error of a list that may have as many animals as a trip.
func checkMany(l []api.Caught) api.Errno {
	if len(l) > api.MaxPulls*api.MaxPulled {
		return api.ErrFull
	}
	return checkEach(l)
}

func checkEach(l []api.Caught) api.Errno {
	for _, c := range l {
		if e := CheckCaught(c); e != api.OK {
			return e
		}
	}
	return api.OK
}

func cube(n int) int { return n * n * n }
