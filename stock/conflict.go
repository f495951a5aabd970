package stock

import (
	"math/bits"

	"homarus/api"
)

// Conflict returns the numbers of the fewest signs with which alone the set is empty, of several the first ones in lexicographic order.
func Conflict(s api.Stock) ([]int, api.Errno) {
	if e := Check(s); e != api.OK {
		return nil, e
	}
	if _, some := boundsOf(s); some {
		return nil, api.ErrMissing
	}
	b, some := loosest().tightened(ofYears(s))
	if !some {
		return nil, api.OK
	}
	var list []int
	for left := fewestSigns(s, b); left != 0; left &= left - 1 {
		list = append(list, bits.TrailingZeros16(left))
	}
	return list, api.OK
}

// fewestSigns returns a set of signs, as bits, with which no history is left of those with some bounds. All signs together leave none.
func fewestSigns(s api.Stock, all bounds) uint16 {
	fewest := uint16(1)<<len(s.Signs) - 1
	var try func(b bounds, taken uint16, next int)
	// Sets are tried in lexicographic order, so only one with fewer signs is better than one that was found before.
	try = func(b bounds, taken uint16, next int) {
		for i := next; i < len(s.Signs) && bits.OnesCount16(taken)+1 < bits.OnesCount16(fewest); i++ {
			with := taken | 1<<i
			if tighter, some := b.tightened(ofSign(s, s.Signs[i])); some {
				try(tighter, with, i+1)
			} else {
				fewest = with
			}
		}
	}
	try(all, 0, 0)
	return fewest
}
