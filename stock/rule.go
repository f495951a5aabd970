package stock

import (
	"sort"

	"homarus/api"
)

// Quota returns how many of n animals may be landed by a rule.
func Quota(r api.Rule, n int) (int, api.Errno) {
	if e := checkRule(r); e != api.OK {
		return 0, e
	}
	if !within(n, 0, api.MaxHerd) {
		return 0, api.ErrRange
	}
	return quota(r, n), api.OK
}

// Keep says whether a rule keeps its point for all numbers of a year, or for none, or for some, and from which number on it does.
func Keep(s api.Stock, r api.Rule, year int) (verdict, least int, e api.Errno) {
	n, e := numbers(s, r, year)
	if e != api.OK {
		return 0, 0, e
	}
	// The greater the number, the more are left: a quota grows no faster than the number.
	least = n.Lo + sort.Search(n.Hi-n.Lo+1, func(more int) bool {
		return left(r, n.Lo+more, quota(r, n.Lo+more)) >= r.Point
	})
	switch {
	case least == n.Lo:
		return api.Sure, least, api.OK
	case least > n.Hi:
		return api.Never, -1, api.OK
	}
	return api.Open, least, api.OK
}

// Safe returns how many can be landed in a year so that the point of a rule is kept for all numbers of that year.
func Safe(s api.Stock, r api.Rule, year int) (int, api.Errno) {
	n, e := numbers(s, r, year)
	if e != api.OK {
		return 0, e
	}
	// What is safe for the least number is so for the greater ones.
	tooMany := sort.Search(n.Lo+1, func(landed int) bool { return left(r, n.Lo, landed) < r.Point })
	if tooMany == 0 {
		return 0, api.ErrMissing
	}
	return tooMany - 1, api.OK
}

// numbers returns the numbers of a year of which a rule speaks.
func numbers(s api.Stock, r api.Rule, year int) (api.Span, api.Errno) {
	if e := Check(s); e != api.OK {
		return api.Span{}, e
	}
	if !isClass(s, r.Class) {
		return api.Span{}, api.ErrRange
	}
	if e := checkRule(r); e != api.OK {
		return api.Span{}, e
	}
	return Range(s, year, r.Class, s.Classes-1)
}

// checkRule returns the error of a rule but for its class.
func checkRule(r api.Rule) api.Errno {
	if !within(r.Point, 0, api.MaxHerd) || !within(r.Cap, 0, api.MaxHerd) || !within(r.Part, 0, api.Mil) {
		return api.ErrRange
	}
	return checkSpans(api.Mil, r.Live)
}

func quota(r api.Rule, n int) int { return min(r.Cap, partDown(max(n-r.Point, 0), r.Part)) }

// left returns how many of n animals are left, if so many of them are landed, and no more live than have to.
func left(r api.Rule, n, landed int) int { return partDown(n-landed, r.Live.Lo) }
