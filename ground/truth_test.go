package ground_test

import (
	"cmp"
	"slices"
	"testing"

	"homarus/api"
	"homarus/ground"
)

// The chapter's section Terms, followed word by word for small bays and fleets, and held against what the package says.

// trueLines returns the lines of a day as the section says.
func trueLines(b api.Bay, day int) [][]int {
	year := day - day/365*365
	list := make([][]int, len(b.Lines))
	for line := range b.Lines {
		for row, would := range b.Lines[line] {
			for _, c := range b.Customs {
				if c.Line == line && c.Rows.Lo <= row && row <= c.Rows.Hi && c.Days.Lo <= year && year <= c.Days.Hi {
					would += c.Shift
				}
			}
			lies := 0
			if line > 0 {
				lies = list[line-1][row]
			}
			if would > lies {
				lies = would
			}
			if would > b.Wide {
				lies = b.Wide
			}
			list[line] = append(list[line], lies)
		}
	}
	return list
}

// trueHolders returns the gangs that hold a cell, as the section says; there has to be one.
func trueHolders(b api.Bay, day, x, row int) []int {
	lines := trueLines(b, day)
	var holders []int
	for gang := range b.Gangs {
		right := gang == 0 || x >= lines[gang-1][row]
		left := gang == b.Gangs-1 || x < lines[gang][row]
		if left && right {
			holders = append(holders, gang)
		}
	}
	return holders
}

// P2.1, P2.6: lines never cross, each cell has one holder, and Holder, Lines and Where say the same; T7: the cells of a gang follow those of the gang before it.
func TestLinesNeverCross(t *testing.T) {
	r := newRandom()
	for range 4000 {
		b, day := r.bay(), r.day()
		lines, e := ground.Lines(b, day)
		if e != api.OK || !sameLines(lines, trueLines(b, day)) {
			t.Fatalf("Lines(%v, %d) returns %v %d, not %v", b, day, lines, e, trueLines(b, day))
		}
		for row := range b.Deep {
			left := 0
			for _, line := range lines {
				if line[row] < left || line[row] > b.Wide {
					t.Fatalf("Lines(%v, %d) cross: %v", b, day, lines)
				}
				left = line[row]
			}
			before := 0
			for x := range b.Wide {
				holders := trueHolders(b, day, x, row)
				gang, e := ground.Holder(b, day, x, row)
				if e != api.OK || len(holders) != 1 || gang != holders[0] || gang < before {
					t.Fatalf("Holder(%v, %d, %d, %d) returns %d %d, not %v", b, day, x, row, gang, e, holders)
				}
				before = gang
			}
		}
	}
}

// P2.2, P0: Where says what is so for each column that may be the true one.
func TestWhereIsTrue(t *testing.T) {
	r := newRandom()
	for range 4000 {
		b, day := r.bay(), r.day()
		x, row := r.span(0, b.Wide-1), r.Intn(b.Deep)
		var want []int
		for gang := range b.Gangs {
			in, out := false, false
			for column := x.Lo; column <= x.Hi; column++ {
				holds := slices.Contains(trueHolders(b, day, column, row), gang)
				in, out = in || holds, out || !holds
			}
			switch {
			case !out:
				want = append(want, api.Sure)
			case !in:
				want = append(want, api.Never)
			default:
				want = append(want, api.Open)
			}
		}
		if l, e := ground.Where(b, day, x, row); e != api.OK || !slices.Equal(l, want) {
			t.Fatalf("Where(%v, %d, %v, %d) returns %v %d, not %v", b, day, x, row, l, e, want)
		}
	}
}

// P2.7: lines are the same after a year, customs may stand in any order, and where none holds the lines are those of the bay.
func TestCustomsOfEachYear(t *testing.T) {
	r := newRandom()
	calm := 0
	for range 3000 {
		b, day := r.bay(), r.day()
		lines, e := ground.Lines(b, day)
		later, f := ground.Lines(b, (day+365*r.in(1, 99))%36500)
		if e != api.OK || f != api.OK || !sameLines(lines, later) {
			t.Fatalf("Lines(%v, %d) returns %v %d, and in another year %v %d", b, day, lines, e, later, f)
		}
		other := b
		other.Customs = slices.Clone(b.Customs)
		r.Shuffle(len(b.Customs), func(i, j int) { other.Customs[i], other.Customs[j] = other.Customs[j], other.Customs[i] })
		if l, e := ground.Lines(other, day); e != api.OK || !sameLines(l, lines) {
			t.Fatalf("Lines(%v, %d) returns %v, and with customs in another order %v %d", b, day, lines, l, e)
		}
		if slices.ContainsFunc(b.Customs, func(c api.Custom) bool { return c.Days.Lo <= day%365 && day%365 <= c.Days.Hi }) {
			continue
		}
		calm++
		if !sameLines(lines, b.Lines) {
			t.Fatalf("Lines(%v, %d) returns %v without a custom", b, day, lines)
		}
	}
	if calm < 100 {
		t.Errorf("there were only %d days without a custom", calm)
	}
}

// P2.2, P2.8: the holder of a cell is another one on the days of Changes, and on no others.
func TestChangesAreAll(t *testing.T) {
	r := newRandom()
	some := 0
	for range 300 {
		b := r.bay()
		x, row := r.Intn(b.Wide), r.Intn(b.Deep)
		var want []int
		for day := range 365 {
			now, _ := ground.Holder(b, 365+day, x, row)
			before, _ := ground.Holder(b, 365+day-1, x, row)
			if now != before {
				want = append(want, day)
			}
		}
		some += min(len(want), 1)
		if l, e := ground.Changes(b, x, row); e != api.OK || !slices.Equal(l, want) {
			t.Fatalf("Changes(%v, %d, %d) returns %v %d, not %v", b, x, row, l, e, want)
		}
	}
	if some < 50 {
		t.Errorf("only %d cells have changed their holder", some)
	}
}

// P2.3, P2.9: each report stands once in the book, in its order; reports in another order, or twice, make the same book; a book is its own book; and that of all reports is that of the books of parts.
func TestBookOfAnyOrder(t *testing.T) {
	r := newRandom()
	for range 2000 {
		b := r.bay()
		f := r.fleet(b)
		l := r.reports(b, f, r.day())
		book, e := ground.Book(b, f, l)
		if e != api.OK || !slices.Equal(book, trueBook(l)) {
			t.Fatalf("the book of %v is %v %d, not %v", l, book, e, trueBook(l))
		}
		cut := r.in(0, len(l))
		first, _ := ground.Book(b, f, l[:cut])
		rest, _ := ground.Book(b, f, l[cut:])
		for _, other := range [][]api.Report{r.mixed(l), book, append(first, rest...), append(rest, first...)} {
			if same, e := ground.Book(b, f, other); e != api.OK || !slices.Equal(same, book) {
				t.Fatalf("the book of %v is %v, that of %v is %v %d", l, book, other, same, e)
			}
		}
	}
}

// trueBook returns the reports without those that stand before, in the order of a book.
func trueBook(l []api.Report) []api.Report {
	var book []api.Report
	for _, r := range l {
		if !slices.Contains(book, r) {
			book = append(book, r)
		}
	}
	slices.SortFunc(book, func(a, b api.Report) int {
		return cmp.Or(cmp.Compare(a.Tag, b.Tag), cmp.Compare(a.Day, b.Day), cmp.Compare(a.Kind, b.Kind))
	})
	return book
}

// trueSpot follows the reports of a trap one by one, and then looks back for the day since which it is so.
func trueSpot(l []api.Report, tag, day int) api.Spot {
	states, days := []int{api.TrapHome}, []int{0}
	x, row := 0, 0
	for _, r := range trueBook(l) {
		if r.Tag != tag || r.Day > day {
			continue
		}
		now := states[len(states)-1]
		switch {
		case r.Kind == api.ReportHaul:
			now, x, row = api.TrapHome, 0, 0
		case r.Kind == api.ReportSet:
			now, x, row = api.TrapOut, r.X, r.Row
		case r.Kind == api.ReportSeen && now == api.TrapGhost:
			x, row = r.X, r.Row
		case r.Kind == api.ReportSeen:
			now, x, row = api.TrapOut, r.X, r.Row
		case r.Kind == api.ReportCut && now == api.TrapOut:
			now = api.TrapGhost
		}
		states, days = append(states, now), append(days, r.Day)
	}
	last := len(states) - 1
	spot := api.Spot{State: states[last], X: x, Row: row}
	for i := last; i > 0; i-- {
		if states[i-1] != states[last] {
			spot.Since = days[i]
			break
		}
	}
	return spot
}

// P2.3, P2.10: a state follows from the reports of the trap up to the day, and from Since to the day it is the same, day by day.
func TestStateUpToTheDay(t *testing.T) {
	r := newRandom()
	for range 1500 {
		b := r.bay()
		f := r.fleet(b)
		first := r.day()
		l := r.reports(b, f, first)
		tag, day := r.Intn(len(f.Tags)), min(first+r.in(0, 8), api.LastDay)
		spot, e := ground.State(b, f, l, tag, day)
		if want := trueSpot(l, tag, day); e != api.OK || spot != want {
			t.Fatalf("State of %v, %d, %d returns %v %d, not %v", l, tag, day, spot, e, want)
		}
		own := slices.DeleteFunc(slices.Clone(l), func(r api.Report) bool { return r.Tag != tag || r.Day > day })
		if s, e := ground.State(b, f, own, tag, day); e != api.OK || s != spot {
			t.Fatalf("State of %v, %d, %d is %v, but %v %d without the other reports", l, tag, day, spot, s, e)
		}
		if spot.Since > day {
			t.Fatalf("State of %v, %d, %d returns %v", l, tag, day, spot)
		}
		for d := max(spot.Since, first-1, 0); d <= day; d++ {
			if s, e := ground.State(b, f, l, tag, d); e != api.OK || s.State != spot.State || s.Since != spot.Since {
				t.Fatalf("State of %v, %d, %d is %v, but %v on the day %d", l, tag, day, spot, s, d)
			}
		}
	}
}

// trueFaults returns the faults as P2.4 says.
func trueFaults(b api.Bay, f api.Fleet, l []api.Report, day int) []api.Fault {
	var list []api.Fault
	for tag, n := range f.Tags {
		spot, licence := trueSpot(l, tag, day), f.Licences[n]
		if spot.State == api.TrapOut {
			if day%365 < licence.Days.Lo || day%365 > licence.Days.Hi {
				list = append(list, fault(api.FaultSeason, tag, n))
			}
			if !slices.Contains(trueHolders(b, day, spot.X, spot.Row), licence.Gang) {
				list = append(list, fault(api.FaultPlace, tag, n))
			}
		}
		if spot.State == api.TrapGhost {
			list = append(list, fault(api.FaultGhost, tag, n))
		}
	}
	for n, licence := range f.Licences {
		out := 0
		for tag, m := range f.Tags {
			counts := m == n || licence.Master == -1 && f.Licences[m].Master == n
			if counts && trueSpot(l, tag, day).State == api.TrapOut {
				out++
			}
		}
		if out > licence.Most {
			list = append(list, fault(api.FaultMany, -1, n))
		}
	}
	return list
}

// P2.4, P2.11: faults are those of the traps that are out, or ghosts, and of licences with too many; no fault names a trap that is at home, and one of each ghost does.
func TestFaultsAreTrue(t *testing.T) {
	r := newRandom()
	kinds := map[int]int{}
	for range 1500 {
		b := r.bay()
		f := r.fleet(b)
		first := r.day()
		l := r.reports(b, f, first)
		day := min(first+r.in(0, 8), api.LastDay)
		faults, e := ground.Faults(b, f, l, day)
		if want := trueFaults(b, f, l, day); e != api.OK || !slices.Equal(faults, want) {
			t.Fatalf("Faults(%v, %v, %v, %d) returns %v %d, not %v", b, f, l, day, faults, e, want)
		}
		for _, x := range faults {
			kinds[x.Kind]++
		}
		for tag := range f.Tags {
			spot, _ := ground.State(b, f, l, tag, day)
			named := slices.ContainsFunc(faults, func(x api.Fault) bool { return x.Tag == tag })
			ghost := slices.ContainsFunc(faults, func(x api.Fault) bool { return x.Tag == tag && x.Kind == api.FaultGhost })
			if spot.State == api.TrapHome && named || ghost != (spot.State == api.TrapGhost) {
				t.Fatalf("Faults(%v, %v, %v, %d) returns %v, with the trap %d as %v", b, f, l, day, faults, tag, spot)
			}
		}
	}
	if len(kinds) != 4 {
		t.Error("only these kinds of faults have been found:", kinds)
	}
}

// P2.12: in the season, with traps in cells of their gangs, and not too many of them, there is no fault but ghosts; P2.11: and none when all are hauled.
func TestNoFaultInSeason(t *testing.T) {
	r := newRandom()
	set0, ghosts := 0, 0
	for range 1500 {
		b := r.bay()
		f := r.fleet(b)
		day := r.in(0, 364) + 365*r.in(0, 98)
		out := make([]int, len(f.Licences))
		var l, hauls []api.Report
		for _, tag := range r.Perm(len(f.Tags)) {
			n := f.Tags[tag]
			licence := f.Licences[n]
			x, row := r.Intn(b.Wide), r.Intn(b.Deep)
			gang, _ := ground.Holder(b, day, x, row)
			full := out[n] == licence.Most || licence.Master >= 0 && out[licence.Master] == f.Licences[licence.Master].Most
			if full || gang != licence.Gang || day%365 < licence.Days.Lo || day%365 > licence.Days.Hi {
				continue
			}
			set0++
			l, hauls = append(l, set(tag, day, x, row)), append(hauls, hauled(tag, day+1))
			if r.Intn(5) == 0 {
				l = append(l, cut(tag, day))
				ghosts++
				continue
			}
			out[n]++
			if licence.Master >= 0 {
				out[licence.Master]++
			}
		}
		faults, e := ground.Faults(b, f, l, day)
		if e != api.OK || slices.ContainsFunc(faults, func(x api.Fault) bool { return x.Kind != api.FaultGhost }) {
			t.Fatalf("Faults(%v, %v, %v, %d) returns %v %d", b, f, l, day, faults, e)
		}
		if faults, e := ground.Faults(b, f, append(l, hauls...), day+1); e != api.OK || len(faults) > 0 {
			t.Fatalf("Faults(%v, %v, %v, %d) returns %v %d after all traps were hauled", b, f, l, day+1, faults, e)
		}
	}
	if set0 < 500 || ghosts < 100 {
		t.Errorf("only %d traps were set, %d of them cut", set0, ghosts)
	}
}

// P2.5, P2.13: a paper is read as its book, and what is read is written in the order of the book.
func TestPapersThereAndBack(t *testing.T) {
	r := newRandom()
	read := 0
	for range 2000 {
		b := r.bay()
		f := r.fleet(b)
		l := r.reports(b, f, r.day())
		book, _ := ground.Book(b, f, l)
		text, e := ground.Write(b, f, l)
		back, row, g := ground.Read(b, f, text)
		if e != api.OK || g != api.OK || row != 0 || !slices.Equal(back, book) {
			t.Fatalf("%v is written as %q %d, and read as %v %d %d", l, text, e, back, row, g)
		}
		other := r.changedText(text)
		back, row, g = ground.Read(b, f, other)
		if (row > 0) != (g == api.ErrForm) {
			t.Fatalf("%q is read as %v %d %d", other, back, row, g)
		}
		if g != api.OK {
			continue
		}
		read++
		again, e := ground.Write(b, f, back)
		if same, _, g := ground.Read(b, f, again); e != api.OK || g != api.OK || !slices.Equal(same, back) {
			t.Fatalf("%q is read as %v, written as %q %d, and read as %v %d", other, back, again, e, same, g)
		}
	}
	if read < 100 {
		t.Errorf("of the changed papers only %d can be read", read)
	}
}
