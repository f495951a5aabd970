package ground_test

import (
	"math/rand"

	"homarus/api"
)

// random makes values; it begins with the same number each time.
type random struct{ *rand.Rand }

func newRandom() random { return random{rand.New(rand.NewSource(1))} }

func (r random) in(low, high int) int { return low + r.Intn(high-low+1) }

func (r random) span(low, high int) api.Span {
	a, b := r.in(low, high), r.in(low, high)
	return span(min(a, b), max(a, b))
}

// days returns days of the year, most of them near its ends.
func (r random) days() api.Span {
	switch r.Intn(4) {
	case 0:
		return r.span(0, 5)
	case 1:
		return r.span(359, 364)
	case 2:
		return r.span(0, 364)
	}
	return span(r.in(0, 5), r.in(359, 364))
}

// day returns a day, most of them near the ends of a year.
func (r random) day() int {
	if r.Intn(3) == 0 {
		return r.in(0, api.LastDay)
	}
	return r.in(0, 99)*365 + r.Intn(2)*358 + r.in(0, 6)
}

// bay returns a small valid bay.
func (r random) bay() api.Bay {
	b := api.Bay{Wide: r.in(1, 9), Deep: r.in(1, 3), Gangs: r.in(1, 5)}
	for line := range b.Gangs - 1 {
		b.Lines = append(b.Lines, make([]int, b.Deep))
		for row := range b.Deep {
			low := 0
			if line > 0 {
				low = b.Lines[line-1][row]
			}
			b.Lines[line][row] = r.in(low, b.Wide)
		}
	}
	for range r.in(0, 6) * min(len(b.Lines), 1) {
		far := []int{4, 4, 10, 200}[r.Intn(4)]
		b.Customs = append(b.Customs, api.Custom{Line: r.Intn(len(b.Lines)), Rows: r.span(0, b.Deep-1), Days: r.days(), Shift: r.in(-far, far)})
	}
	return b
}

// fleet returns a valid fleet of a bay.
func (r random) fleet(b api.Bay) api.Fleet {
	var f api.Fleet
	for i := range r.in(1, 6) {
		licence := api.Licence{Gang: r.Intn(b.Gangs), Most: r.in(0, 3), Master: -1, Days: r.days()}
		if master := r.in(-1, i-1); master >= 0 && f.Licences[master].Master == -1 {
			licence.Master, licence.Gang = master, f.Licences[master].Gang
		}
		f.Licences = append(f.Licences, licence)
	}
	for range r.in(1, 10) {
		f.Tags = append(f.Tags, r.Intn(len(f.Licences)))
	}
	return f
}

// reports returns valid reports of few days from a day on, in any order, some of them twice.
func (r random) reports(b api.Bay, f api.Fleet, first int) []api.Report {
	var l []api.Report
	kept := map[[3]int]api.Report{}
	for range r.in(0, 60) {
		one := api.Report{Tag: r.Intn(len(f.Tags)), Day: min(first+r.in(0, 6), api.LastDay), Kind: r.in(1, 4)}
		if one.Kind == api.ReportSet || one.Kind == api.ReportSeen {
			one.X, one.Row = r.Intn(b.Wide), r.Intn(b.Deep)
		}
		key := [3]int{one.Tag, one.Day, one.Kind}
		if before, ok := kept[key]; ok {
			one = before
		}
		kept[key] = one
		l = append(l, one)
	}
	return l
}

// mixed returns the reports in another order, some of them twice.
func (r random) mixed(l []api.Report) []api.Report {
	var list []api.Report
	for _, i := range r.Perm(len(l)) {
		list = append(list, l[i])
		if r.Intn(4) == 0 {
			list = append(list, l[r.Intn(len(l))])
		}
	}
	return list
}

// changedText returns a text in which one byte is another one, is missing, or stands twice.
func (r random) changedText(text string) string {
	if text == "" {
		return "\n"
	}
	i := r.Intn(len(text))
	switch r.Intn(4) {
	case 0:
		return text[:i] + text[i+1:]
	case 1:
		return text[:i] + text[i:i+1] + text[i:]
	}
	const bytes = "0123456789- \nhaulsetncd"
	return text[:i] + bytes[r.Intn(len(bytes)):][:1] + text[i+1:]
}
