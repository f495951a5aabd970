package trade

import "homarus/api"

// Share returns how many boxes of bait each boat gets.
func Share(quota int, traps []int) ([]int, api.Errno) {
	if !within(quota, 0, api.MaxQuota) {
		return nil, api.ErrRange
	}
	if len(traps) > api.MaxBoats {
		return nil, api.ErrFull
	}
	all := 0
	for _, n := range traps {
		if !within(n, 0, api.MaxTraps) {
			return nil, api.ErrRange
		}
		all += n
	}
	if quota > 0 && all == 0 {
		return nil, api.ErrMissing
	}
	boxes := make([]int, len(traps))
	for range quota {
		boxes[nextBoat(traps, boxes)]++
	}
	return boxes, api.OK
}

// nextBoat returns the first boat with the most traps for each box, the next one with them.
func nextBoat(traps, boxes []int) int {
	best := 0
	for i := range traps {
		// These are fractions: each one is multiplied by what both are divided by.
		if traps[i]*(boxes[best]+1) > traps[best]*(boxes[i]+1) {
			best = i
		}
	}
	return best
}
