package growth

import "homarus/api"

// Class returns the number of the class that has a size.
func Class(edges []int, size int) (int, api.Errno) {
	if e := checkEdges(edges); e != api.OK {
		return 0, e
	}
	if !isSize(size) {
		return 0, api.ErrRange
	}
	for i := range len(edges) - 1 {
		if within(size, edges[i], edges[i+1]-1) {
			return i, api.OK
		}
	}
	return 0, api.ErrMissing
}

// Next returns for each class, and for all sizes that are not less than the last edge, how many animals of it there may truly be.
func Next(g api.Growth, edges []int, herd []api.Span, store, heat, live api.Span) ([]api.Span, api.Errno) {
	if e := checkNext(g, edges, herd, store, heat, live); e != api.OK {
		return nil, e
	}
	classes := classSizes(edges)
	next := make([]api.Span, len(classes))
	for i, n := range herd {
		animal := api.Animal{Size: api.Span{Lo: edges[i], Hi: edges[i+1] - 1}, Heat: store}
		ends, e := grow(g, animal, heat)
		if e != api.OK {
			return nil, e
		}
		sizes := union(ends)
		for j, class := range classes {
			verdict := sizes.verdict(class)
			if verdict == api.Sure {
				next[j].Lo += partDown(n.Lo, live.Lo)
			}
			if verdict != api.Never {
				next[j].Hi += partUp(n.Hi, live.Hi)
			}
		}
	}
	return next, api.OK
}

// checkNext returns all errors of Next but those of growing.
func checkNext(g api.Growth, edges []int, herd []api.Span, store, heat, live api.Span) api.Errno {
	if e := Check(g); e != api.OK {
		return e
	}
	if e := checkEdges(edges); e != api.OK {
		return e
	}
	if e := checkHerd(edges, herd); e != api.OK {
		return e
	}
	if e := checkHeat(store); e != api.OK {
		return e
	}
	if e := checkHeat(heat); e != api.OK {
		return e
	}
	return checkSpan(live, 0, api.Mil)
}

func checkEdges(edges []int) api.Errno {
	if len(edges) < 2 {
		return api.ErrShort
	}
	if len(edges) > api.MaxClasses+1 {
		return api.ErrFull
	}
	for i, edge := range edges {
		if !within(edge, 0, api.MaxSize+1) {
			return api.ErrRange
		}
		if i > 0 && edge <= edges[i-1] {
			return api.ErrOrder
		}
	}
	return api.OK
}

func checkHerd(edges []int, herd []api.Span) api.Errno {
	if len(herd) != len(edges)-1 {
		return api.ErrForm
	}
	for _, n := range herd {
		if e := checkSpan(n, 0, api.MaxHerd); e != api.OK {
			return e
		}
	}
	return api.OK
}

// classSizes returns the sizes of each class, and at last those that are not less than the last edge.
func classSizes(edges []int) []sizeSet {
	list := make([]sizeSet, len(edges))
	for i, edge := range edges {
		last := api.MaxSize
		if i+1 < len(edges) {
			last = edges[i+1] - 1
		}
		list[i] = between(edge, last)
	}
	return list
}
