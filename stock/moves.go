package stock

import (
	"homarus/api"
	"homarus/growth"
)

// Moves returns for each class the least and the greatest class in which an animal of it may be after so much heat.
func Moves(g api.Growth, edges []int, store, heat api.Span) (low, top []int, e api.Errno) {
	if e := growth.Check(g); e != api.OK {
		return nil, nil, e
	}
	if e := checkEdges(edges); e != api.OK {
		return nil, nil, e
	}
	for i := range len(edges) - 1 {
		animal := api.Animal{Size: api.Span{Lo: edges[i], Hi: edges[i+1] - 1}, Heat: store}
		list, e := growth.Reach(g, animal, heat)
		if e != api.OK {
			return nil, nil, e
		}
		sizes := api.Span{Lo: api.MaxSize}
		for _, reach := range list {
			sizes.Lo, sizes.Hi = min(sizes.Lo, reach.Size.Lo), max(sizes.Hi, reach.Size.Hi)
		}
		low, top = append(low, classOf(edges, sizes.Lo)), append(top, classOf(edges, sizes.Hi))
	}
	return low, top, api.OK
}

func checkEdges(edges []int) api.Errno {
	// Only the edges are asked for: it does not matter in which class the size 0 is, if it is in one.
	if _, e := growth.Class(edges, 0); e != api.ErrMissing {
		return e
	}
	return api.OK
}

// classOf returns the class of a size that is not below the first edge.
func classOf(edges []int, size int) int {
	class, e := growth.Class(edges, size)
	if e != api.OK {
		return len(edges) - 2
	}
	return class
}
