package stock

import (
	"iter"
	"slices"
	"sort"

	"homarus/api"
)

// All that a stock says is said of sums: of how many animals there are in a year in a class and all greater ones.

// places is how many sums there are at most: those of each year and class, and that of no class.
const places = 1 + (api.MaxYears+1)*api.MaxBins

// nowhere is the place of the sum of no class, which is 0.
const nowhere = 0

// place returns the place of the sum of a class and all greater ones in a year.
func place(s api.Stock, year, class int) int {
	if class == s.Classes {
		return nowhere
	}
	return 1 + year*s.Classes + class
}

// inequality says that the sum at one place is not greater than that at another one and a number.
type inequality struct{ sum, other, more int }

// ofYears hands out what holds for the histories that all years allow.
func ofYears(s api.Stock) iter.Seq[inequality] {
	return func(yield func(inequality) bool) {
		for year := range len(s.Years) + 1 {
			if !yield(inequality{place(s, year, 0), nowhere, api.MaxHerd}) {
				return
			}
			for c := range s.Classes {
				if !yield(inequality{place(s, year, c+1), place(s, year, c), 0}) {
					return
				}
			}
		}
		for year := range s.Years {
			for _, x := range ofYear(s, year) {
				if !yield(x) {
					return
				}
			}
		}
	}
}

// ofYear returns what holds for the histories that a year allows.
func ofYear(s api.Stock, year int) []inequality {
	y := s.Years[year]
	now, next := place(s, year, 0), place(s, year+1, 0)
	list := []inequality{
		{nowhere, now, -y.Dead.Lo},
		{next, now, y.Young.Hi - y.Dead.Lo},
		{now, next, y.Dead.Hi - y.Young.Lo},
		{place(s, year+1, 1), next, -y.Young.Lo},
	}
	for c := 1; c < s.Classes; c++ {
		sum := place(s, year+1, c)
		list = append(list,
			inequality{sum, place(s, year, firstInto(y, c)), 0},
			inequality{sum, now, -y.Dead.Lo},
			inequality{place(s, year, firstBeyond(y, c)), sum, y.Dead.Hi})
	}
	return list
}

// firstInto returns the least class whose animals may be in the class c or a greater one a year later. There is one: those of the last class stay in it.
func firstInto(y api.Year, c int) int {
	return slices.IndexFunc(y.Top, func(top int) bool { return top >= c })
}

// firstBeyond returns the least class whose animals, with those of all greater ones, are surely in the class c or a greater one a year later.
func firstBeyond(y api.Year, c int) int {
	first := len(y.Low)
	for first > 0 && y.Low[first-1] >= c {
		first--
	}
	return first
}

// ofSign hands out what holds for the histories that a sign allows.
func ofSign(s api.Stock, sign api.Sign) iter.Seq[inequality] {
	return func(yield func(inequality) bool) {
		n := allowedBy(sign)
		from, behind := place(s, sign.Year, sign.From), place(s, sign.Year, sign.To+1)
		if yield(inequality{from, behind, n.Hi}) {
			yield(inequality{behind, from, -n.Lo})
		}
	}
}

// allowedBy returns the numbers of animals, up to MaxHerd, that a sign allows; if there are none, Lo is greater than Hi.
func allowedBy(sign api.Sign) api.Span {
	seen := sign.Number.Lo
	switch sign.Kind {
	case api.SignTags:
		return api.Span{Lo: seen, Hi: api.MaxHerd}
	case api.SignSurvey:
		enough := func(n int) bool { return partUp(n, sign.Part.Hi) >= seen }
		tooMany := func(n int) bool { return partDown(n, sign.Part.Lo) > seen }
		return api.Span{Lo: sort.Search(api.MaxHerd+1, enough), Hi: sort.Search(api.MaxHerd+1, tooMany) - 1}
	}
	return sign.Number
}

// partDown returns the part (per Mil) of a number, rounded down.
func partDown(n, part int) int { return n * part / api.Mil }

// partUp returns the part (per Mil) of a number, rounded up.
func partUp(n, part int) int { return (n*part + api.Mil - 1) / api.Mil }
