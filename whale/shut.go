package whale

import (
	"cmp"
	"slices"

	"homarus/api"
)

// Shut returns, row by row, the columns of the cells that are at most so far from a cell in which a whale may be.
func Shut(b api.Bay, w api.Whales, guard, day int) ([][]api.Span, api.Errno) {
	if e := Check(b, w); e != api.OK {
		return nil, e
	}
	if !within(guard, 0, api.MaxGuard) || !isDay(day) {
		return nil, api.ErrRange
	}
	shut := make([][]api.Span, b.Deep)
	for whale := range w.Many {
		near := reach(b, w, whale, day).wider(guard).shared(wholeBay(b))
		for row := near[byRow].Lo; row <= near[byRow].Hi; row++ {
			shut[row] = append(shut[row], near[byColumn])
		}
	}
	for row, spans := range shut {
		slices.SortFunc(spans, func(x, y api.Span) int { return cmp.Compare(x.Lo, y.Lo) })
		shut[row] = together(spans, joined)
	}
	return shut, api.OK
}

// joined returns two spans as one, the first of which begins first, if no number is between them.
func joined(first, second api.Span) (api.Span, bool) {
	return api.Span{Lo: first.Lo, Hi: max(first.Hi, second.Hi)}, second.Lo <= first.Hi+1
}

// together returns a list in which each item is put together with the one before it, if both can be one.
func together[T any](list []T, join func(first, second T) (T, bool)) []T {
	var parts []T
	for _, item := range list {
		last := len(parts) - 1
		if last >= 0 {
			if both, ok := join(parts[last], item); ok {
				parts[last] = both
				continue
			}
		}
		parts = append(parts, item)
	}
	return parts
}
