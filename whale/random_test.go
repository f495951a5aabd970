package whale_test

import (
	"math/rand"
	"slices"

	"homarus/api"
)

// random makes values; it begins with the same number each time.
type random struct{ *rand.Rand }

func newRandom() random { return random{rand.New(rand.NewSource(1))} }

func (r random) in(low, high int) int { return low + r.Intn(high-low+1) }

func (r random) span(low, high int) api.Span {
	a, b := r.in(low, high), r.in(low, high)
	return span(min(a, b), max(a, b))
}

func (r random) yes() bool { return r.Intn(2) == 0 }

// bay returns a bay of few columns and rows, with up to three gangs and lines that move.
func (r random) bay(wide, deep int) api.Bay {
	b := api.Bay{Wide: r.in(1, wide), Deep: r.in(1, deep), Gangs: r.in(1, 3)}
	for line := range b.Gangs - 1 {
		b.Lines = append(b.Lines, make([]int, b.Deep))
		for row := range b.Deep {
			low := 0
			if line > 0 {
				low = b.Lines[line-1][row]
			}
			b.Lines[line][row] = r.in(low, b.Wide)
		}
	}
	for range r.in(0, 3) * min(len(b.Lines), 1) {
		b.Customs = append(b.Customs, api.Custom{Line: r.Intn(len(b.Lines)), Rows: r.span(0, b.Deep-1), Days: r.span(0, 364), Shift: r.in(-4, 4)})
	}
	return b
}

// near returns a span of numbers below many, most often with n.
func (r random) near(n, many int) api.Span {
	if r.Intn(8) == 0 {
		return r.span(0, many-1)
	}
	return span(r.in(max(n-2, 0), n), r.in(n, min(n+2, many-1)))
}

// whales returns whales that were seen in some days from a day on; most of them have tracks.
func (r random) whales(b api.Bay, many, first, length int) api.Whales {
	w := api.Whales{Many: r.in(0, many), Speed: r.in(0, 3)}
	for n := range w.Many {
		x, row := r.Intn(b.Wide), r.Intn(b.Deep)
		for day := first; day < first+length; day++ {
			if r.yes() {
				w.Sights = append(w.Sights, seen(n, day, r.near(x, b.Wide), r.near(row, b.Deep)))
			}
			x = min(max(x+r.in(-w.Speed, w.Speed), 0), b.Wide-1)
			row = min(max(row+r.in(-w.Speed, w.Speed), 0), b.Deep-1)
		}
	}
	r.Shuffle(len(w.Sights), func(i, j int) { w.Sights[i], w.Sights[j] = w.Sights[j], w.Sights[i] })
	return w
}

// fleet returns a fleet with few tags.
func (r random) fleet(b api.Bay) api.Fleet {
	f := api.Fleet{Licences: []api.Licence{{Gang: r.Intn(b.Gangs), Most: 3, Master: -1, Days: span(0, 364)}}}
	f.Tags = make([]int, r.in(0, 4))
	return f
}

// reports returns reports of some days from a day on; most of the traps are out.
func (r random) reports(b api.Bay, f api.Fleet, first, length int) []api.Report {
	var l []api.Report
	for tag := range f.Tags {
		for day := first; day < first+length; day++ {
			switch r.Intn(8) {
			case 0, 1, 2:
				l = append(l, set(tag, day, r.Intn(b.Wide), r.Intn(b.Deep)))
			case 3:
				l = append(l, api.Report{Tag: tag, Day: day, Kind: api.ReportSeen, X: r.Intn(b.Wide), Row: r.Intn(b.Deep)})
			case 4:
				l = append(l, said(api.ReportHaul, tag, day))
			case 5:
				l = append(l, said(api.ReportCut, tag, day))
			}
		}
	}
	r.Shuffle(len(l), func(i, j int) { l[i], l[j] = l[j], l[i] })
	return l
}

// ropes returns ropes of a fleet; weak ones part at few different pulls.
func (r random) ropes(f api.Fleet) []api.Rope {
	var ropes []api.Rope
	for range f.Tags {
		ropes = append(ropes, []api.Rope{strong(), none(), weak(1, 1), {Kind: api.RopeWeak, Part: r.span(1, 4)}, {Kind: api.RopeWeak, Part: r.span(1, 4), Mark: r.mark(3)}}[r.Intn(5)])
	}
	return ropes
}

// mark returns a mark of few letters.
func (r random) mark(longest int) string {
	mark := make([]byte, r.in(1, longest))
	for i := range mark {
		mark[i] = "aaabbc"[r.Intn(6)]
	}
	return string(mark)
}

// marks returns marks of few letters.
func (r random) marks(many, longest int) []string {
	var marks []string
	for range r.in(0, many) {
		marks = append(marks, r.mark(longest))
	}
	return marks
}

// cells returns cells of a bay.
func (r random) cells(b api.Bay, many int) []api.Cell {
	var cells []api.Cell
	for range r.in(0, many) {
		cells = append(cells, api.Cell{X: r.Intn(b.Wide), Row: r.Intn(b.Deep)})
	}
	return cells
}

// mixed returns a list in another order.
func mixed[T any](r random, list []T) []T {
	list = slices.Clone(list)
	r.Shuffle(len(list), func(i, j int) { list[i], list[j] = list[j], list[i] })
	return list
}
