package whale

import (
	"homarus/api"
	"homarus/ground"
)

// Codes returns a code for each cell, such that no two cells that hear one call have the same one, with as few codes as can be.
func Codes(b api.Bay, cells []api.Cell, hear int) ([]int, api.Errno) {
	if e := ground.Check(b); e != api.OK {
		return nil, e
	}
	if len(cells) > api.MaxRopeless {
		return nil, api.ErrFull
	}
	for _, c := range cells {
		if !wholeBay(b).has(c.X, c.Row) {
			return nil, api.ErrRange
		}
	}
	if !within(hear, 0, api.MaxWide) {
		return nil, api.ErrRange
	}
	// As many codes as cells are always enough.
	for many := 0; ; many++ {
		if codes, ok := firstCodes(cells, hear, many); ok {
			return codes, api.OK
		}
	}
}

// firstCodes returns the first list, in lexicographic order, of so many codes at most, if there is one.
func firstCodes(cells []api.Cell, hear, many int) ([]int, bool) {
	codes := make([]int, 0, len(cells))
	var try func(used int) bool
	try = func(used int) bool {
		i := len(codes)
		if i == len(cells) {
			return true
		}
		// A new code is the least one that is not used: codes that were not used are all alike.
		for code := 0; code < min(used+1, many); code++ {
			if isTaken(cells, codes, hear, code) {
				continue
			}
			codes = append(codes, code)
			if try(max(used, code+1)) {
				return true
			}
			codes = codes[:i]
		}
		return false
	}
	found := try(0)
	return codes, found
}

// isTaken says whether a cell before the next one has a code, and hears what that one does.
func isTaken(cells []api.Cell, codes []int, hear, code int) bool {
	next := cells[len(codes)]
	for i, other := range codes {
		if other == code && distance(cells[i], next) <= hear {
			return true
		}
	}
	return false
}

// distance returns the greater one of the differences of columns and of rows.
func distance(a, b api.Cell) int {
	return max(a.X-b.X, b.X-a.X, a.Row-b.Row, b.Row-a.Row)
}
