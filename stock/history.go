package stock

import (
	"iter"

	"homarus/api"
)

// Allowed says whether a history is in the set of a stock.
func Allowed(s api.Stock, history [][]int) (bool, api.Errno) {
	if e := Check(s); e != api.OK {
		return false, e
	}
	if e := checkHistory(s, history); e != api.OK {
		return false, e
	}
	sums := sumsOf(s, history)
	if !sums.fit(ofYears(s)) {
		return false, api.OK
	}
	for _, sign := range s.Signs {
		if !sums.fit(ofSign(s, sign)) {
			return false, api.OK
		}
	}
	return true, api.OK
}

// checkHistory looks at all rows before it looks at any number.
func checkHistory(s api.Stock, history [][]int) api.Errno {
	if len(history) != len(s.Years)+1 {
		return api.ErrForm
	}
	for _, row := range history {
		if len(row) != s.Classes {
			return api.ErrForm
		}
	}
	for _, row := range history {
		for _, n := range row {
			if !within(n, 0, api.MaxHerd) {
				return api.ErrRange
			}
		}
	}
	return api.OK
}

// sums are those of a history, by their places.
type sums [places]int

func sumsOf(s api.Stock, history [][]int) sums {
	var all sums
	for year, row := range history {
		for c := s.Classes - 1; c >= 0; c-- {
			all[place(s, year, c)] = row[c] + all[place(s, year, c+1)]
		}
	}
	return all
}

// fit says whether all inequalities hold.
func (all sums) fit(list iter.Seq[inequality]) bool {
	for x := range list {
		if all[x.sum] > all[x.other]+x.more {
			return false
		}
	}
	return true
}
