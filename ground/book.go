package ground

import (
	"cmp"
	"slices"

	"homarus/api"
)

// Book returns each of the reports once, in the order of Tag, then Day, then Kind.
func Book(b api.Bay, f api.Fleet, l []api.Report) ([]api.Report, api.Errno) {
	if e := CheckFleet(b, f); e != api.OK {
		return nil, e
	}
	if e := checkReports(b, f, l); e != api.OK {
		return nil, e
	}
	seen := map[api.Report]bool{}
	var book []api.Report
	for _, r := range l {
		if !seen[r] {
			seen[r] = true
			book = append(book, r)
		}
	}
	slices.SortFunc(book, orderBy(tagOf, dayOf, kindOf))
	return book, api.OK
}

func checkReports(b api.Bay, f api.Fleet, l []api.Report) api.Errno {
	if len(l) > api.MaxReports {
		return api.ErrFull
	}
	for _, r := range l {
		if e := checkReport(b, f, r); e != api.OK {
			return e
		}
	}
	return checkClashes(l)
}

func checkReport(b api.Bay, f api.Fleet, r api.Report) api.Errno {
	if !isIndex(r.Tag, len(f.Tags)) {
		return api.ErrMissing
	}
	if !isDay(r.Day) {
		return api.ErrRange
	}
	if !within(r.Kind, api.ReportHaul, api.ReportCut) {
		return api.ErrKind
	}
	if hasPlace(r.Kind) && !isCell(b, r.X, r.Row) {
		return api.ErrRange
	}
	if !hasPlace(r.Kind) && (r.X != 0 || r.Row != 0) {
		return api.ErrForm
	}
	return api.OK
}

// checkClashes returns ErrClash if two reports say of one trap, on one day, that it was set, or seen, in two places.
func checkClashes(l []api.Report) api.Errno {
	said := map[api.Report]api.Report{}
	for _, r := range l {
		// Reports without a place never clash: they are equal if Tag, Day and Kind are.
		anywhere := api.Report{Tag: r.Tag, Day: r.Day, Kind: r.Kind}
		if before, ok := said[anywhere]; ok && before != r {
			return api.ErrClash
		}
		said[anywhere] = r
	}
	return api.OK
}

// hasPlace says whether a report of a kind says where the trap is.
func hasPlace(kind int) bool { return kind == api.ReportSet || kind == api.ReportSeen }

func tagOf(r api.Report) int { return r.Tag }

func dayOf(r api.Report) int { return r.Day }

func kindOf(r api.Report) int { return r.Kind }

// orderBy returns a comparison of values by their keys, of which the first one that differs decides.
func orderBy[T any](keys ...func(T) int) func(x, y T) int {
	return func(x, y T) int {
		for _, key := range keys {
			if c := cmp.Compare(key(x), key(y)); c != 0 {
				return c
			}
		}
		return 0
	}
}
