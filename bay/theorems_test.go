package bay_test

import (
	"fmt"
	"slices"
	"strconv"
	"strings"
	"testing"

	"homarus/api"
	"homarus/bay"
	"homarus/catch"
	"homarus/ground"
	"homarus/trade"
	"homarus/whale"
)

// log is a diary in a harbour, line by line, with the replies.
type log struct {
	h       api.Harbour
	lines   []string
	replies []string
}

// at returns the desk behind so many lines.
func (l log) at(t *testing.T, many int) api.Desk {
	t.Helper()
	d, e := bay.Keep(l.h, joined(l.lines[:many]))
	if e != api.OK {
		t.Fatalf("%v\n%q: Keep returns %d", l.h, l.lines[:many], e)
	}
	return d
}

// end returns the desk behind all lines.
func (l log) end(t *testing.T) api.Desk {
	t.Helper()
	return l.at(t, len(l.lines))
}

func (l log) String() string {
	text := fmt.Sprintln(l.h)
	for i, line := range l.lines {
		text += line + ": " + l.replies[i] + "\n"
	}
	return text
}

// logs calls f with so many random diaries.
func logs(t *testing.T, times, many int, f func(r random, l log)) {
	t.Helper()
	r := newRandom()
	for range times {
		l := log{h: r.harbour()}
		l.lines = r.lines(l.h, many)
		l.replies = run(t, l.h, l.lines)
		f(r, l)
	}
}

// run returns the replies to lines.
func run(t *testing.T, h api.Harbour, lines []string) []string {
	t.Helper()
	text, e := bay.Run(h, joined(lines))
	list := strings.Split(text, "\n")
	if last := len(list) - 1; e != api.OK || list[last] != "" || last != len(lines) {
		t.Fatalf("%v\n%q: Run returns %q %d", h, lines, text, e)
	}
	return list[:len(list)-1]
}

// report returns the report behind lines.
func report(t *testing.T, h api.Harbour, lines []string) string {
	t.Helper()
	text, e := bay.Report(h, joined(lines))
	if e != api.OK {
		t.Fatalf("%v\n%q: Report returns %d", h, lines, e)
	}
	return text
}

func wordsOf(line string) []string { return strings.Split(line, " ") }

// numbersOf returns the numbers that words are, as far as they are.
func numbersOf(words []string) []int {
	var list []int
	for _, word := range words {
		n, _ := strconv.Atoi(word)
		list = append(list, n)
	}
	return list
}

func isRefused(reply string) bool { return strings.HasPrefix(reply, "error ") }

// begins says whether a line is not refused, and begins with one of some words.
func (l log) begins(i int, firsts ...string) bool {
	return !isRefused(l.replies[i]) && slices.Contains(firsts, wordsOf(l.lines[i])[0])
}

// P10.3: a diary is replayed to the same replies, desk and report; there are as many replies as lines; what fewer lines reply is the beginning of what all reply.
func TestReplayed(t *testing.T) {
	logs(t, 150, 30, func(r random, l log) {
		if again := run(t, l.h, l.lines); !slices.Equal(again, l.replies) || !sameDesk(l.end(t), l.end(t)) || report(t, l.h, l.lines) != report(t, l.h, l.lines) {
			t.Fatalf("%v: then the replies are %q", l, again)
		}
		for many := range len(l.lines) + 1 {
			if fewer := run(t, l.h, l.lines[:many]); !slices.Equal(fewer, l.replies[:many]) {
				t.Fatalf("%v: fewer lines reply %q", l, fewer)
			}
		}
	})
}

// P10.4: lines that are refused, and lines that ask alone, can be left out, all or some: the desk and the report are the same, and the other lines reply the same.
func TestRefused(t *testing.T) {
	refused, asked := 0, 0
	logs(t, 600, 60, func(r random, l log) {
		want, told := l.end(t), report(t, l.h, l.lines)
		for _, all := range []bool{true, false} {
			var left, replies []string
			for i, line := range l.lines {
				asks := l.begins(i, "where", "holder", "faults", "danger", "count", "left")
				refused += boolInt(isRefused(l.replies[i]))
				asked += boolInt(asks)
				if !isRefused(l.replies[i]) && !asks || !all && r.yes() {
					left, replies = append(left, line), append(replies, l.replies[i])
				}
			}
			if !sameDesk(log{l.h, left, replies}.end(t), want) || report(t, l.h, left) != told || !slices.Equal(run(t, l.h, left), replies) {
				t.Fatalf("%v: without some lines %q is another desk", l, left)
			}
		}
	})
	if refused < 1000 || asked < 1000 {
		t.Errorf("%d lines were refused, %d asked", refused, asked)
	}
}

func boolInt(yes bool) int {
	if yes {
		return 1
	}
	return 0
}

// cells are the cells in which a whale may be.
type cells map[[2]int]bool

// trueCells goes, from the first sight of a whale on, through all cells of its tracks up to a day that is not before its last sight.
func trueCells(h api.Harbour, sights []api.Sight, number, day int) cells {
	now := cells{}
	for x := range h.Bay.Wide {
		for row := range h.Bay.Deep {
			now[[2]int{x, row}] = true
		}
	}
	before := -1
	for _, s := range sights {
		if s.Whale != number {
			continue
		}
		if before >= 0 {
			now = now.later(h, s.Day-before)
		}
		before = s.Day
		for c := range now {
			if c[0] < s.X.Lo || c[0] > s.X.Hi || c[1] < s.Rows.Lo || c[1] > s.Rows.Hi {
				delete(now, c)
			}
		}
	}
	return now.later(h, day-before)
}

// later returns where whales may be so many days later.
func (c cells) later(h api.Harbour, days int) cells {
	// A whale that swims is through the bay in less than ten days.
	for range min(days, 10) {
		next := cells{}
		for at := range c {
			for x := range h.Bay.Wide {
				for row := range h.Bay.Deep {
					if distance(at, [2]int{x, row}) <= h.Speed {
						next[[2]int{x, row}] = true
					}
				}
			}
		}
		c = next
	}
	return c
}

func distance(a, b [2]int) int {
	return max(a[0]-b[0], b[0]-a[0], a[1]-b[1], b[1]-a[1])
}

// whalesOf returns the numbers of the whales of a desk.
func whalesOf(h api.Harbour, d api.Desk) []int {
	var list []int
	for _, s := range d.Sights {
		if s.Day >= d.Day-h.Memory && !slices.Contains(list, s.Whale) {
			list = append(list, s.Whale)
		}
	}
	slices.Sort(list)
	return list
}

// outOn returns which traps are out on a day.
func outOn(t *testing.T, h api.Harbour, d api.Desk, day int) map[int]api.Spot {
	t.Helper()
	list := map[int]api.Spot{}
	for tag := range h.Fleet.Tags {
		spot, e := ground.State(h.Bay, h.Fleet, d.Reports, tag, day)
		if e != api.OK {
			t.Fatalf("State returns %d", e)
		}
		if spot.State == api.TrapOut {
			list[tag] = spot
		}
	}
	return list
}

// P10.5: on the day on which a trap was set by a line it was in its season, in a cell of its gang, with no more traps out than may be, and, unless it is ropeless, nowhere within Guard of a whale, whichever track it swims; and a trap that was not set for a whale was within Guard of a cell in which one may be.
func TestWhereItMayBe(t *testing.T) {
	set, shut := 0, 0
	logs(t, 1500, 50, func(r random, l log) {
		for i, line := range l.lines {
			isShut := l.replies[i] == "error 14" && wordsOf(line)[0] == "set"
			if !isShut && !l.begins(i, "set") {
				continue
			}
			d := l.at(t, i+1)
			n := numbersOf(wordsOf(line))
			tag, at := n[1], [2]int{n[2], n[3]}
			if near := l.h.Ropes[tag].Kind != api.RopeNone && nearWhale(l.h, d, at); near != isShut {
				t.Fatalf("%v: %s replies %s", l, line, l.replies[i])
			}
			if isShut {
				shut++
				continue
			}
			set++
			out := outOn(t, l.h, d, d.Day)
			if spot, ok := out[tag]; !ok || spot.X != at[0] || spot.Row != at[1] || spot.Since != d.Day {
				t.Fatalf("%v: %s: the trap is at %v", l, line, out)
			}
			own := l.h.Fleet.Tags[tag]
			licence := l.h.Fleet.Licences[own]
			if gang, e := ground.Holder(l.h.Bay, d.Day, at[0], at[1]); gang != licence.Gang || e != api.OK || d.Day%365 < licence.Days.Lo || d.Day%365 > licence.Days.Hi {
				t.Fatalf("%v: %s: in the cell of %d", l, line, gang)
			}
			for n, x := range l.h.Fleet.Licences {
				many := 0
				for tag := range out {
					other := l.h.Fleet.Tags[tag]
					if other == n || l.h.Fleet.Licences[other].Master == n {
						many++
					}
				}
				if many > x.Most && (n == own || n == licence.Master) {
					t.Fatalf("%v: %s: %d traps are out for the licence %d", l, line, many, n)
				}
			}
		}
	})
	if set < 500 || shut < 50 {
		t.Errorf("%d traps were set, %d were not", set, shut)
	}
}

// nearWhale says whether a whale of a desk may be within Guard of a cell.
func nearWhale(h api.Harbour, d api.Desk, at [2]int) bool {
	for _, number := range whalesOf(h, d) {
		for c := range trueCells(h, d.Sights, number, d.Day) {
			if distance(c, at) <= h.Guard {
				return true
			}
		}
	}
	return false
}

// truths returns whether an animal has to go back, for all that it may truly be.
func truths(g api.Gauge, c api.Caught) []bool {
	var list []bool
	for size := c.Size.Lo; size <= c.Size.Hi; size++ {
		for _, eggs := range []bool{false, true} {
			for _, notch := range []bool{false, true} {
				possible := (c.Eggs == api.Open || eggs == (c.Eggs == api.Sure)) && (c.Notch == api.Open || notch == (c.Notch == api.Sure))
				if possible {
					list = append(list, size < g.Low || size > g.High || g.Eggs && eggs || g.Notch && notch || g.Soft && c.Shell == api.ShellSoft)
				}
			}
		}
	}
	return list
}

// P10.6: nothing was kept that has to go back in any truth; each animal of a trap was kept, or went back, in the order of the lines, of a trap that was hauled on that day.
func TestKeptInAnyTruth(t *testing.T) {
	fates := [4]int{}
	logs(t, 600, 60, func(r random, l log) {
		d := l.end(t)
		caught := 0
		for i, line := range l.lines {
			if !l.begins(i, "catch") {
				continue
			}
			x := d.Taken[caught]
			caught++
			goesBack := slices.Contains(truths(l.h.Gauge, x.Animal), true)
			want := map[bool]string{false: "kept", true: "back"}[goesBack]
			if goesBack && x.Animal.Eggs == api.Sure {
				want = "back notched"
			}
			if (x.Fate == api.FateKept) == goesBack || x.Fate != api.FateKept && x.Fate != api.FateBack || l.replies[i] != want {
				t.Fatalf("%v: %s: it is %v", l, line, x)
			}
			if !slices.Contains(d.Reports, api.Report{Tag: x.Tag, Day: x.Day, Kind: api.ReportHaul}) || fmt.Sprint(x.Tag) != wordsOf(line)[1] {
				t.Fatalf("%v: %s: it is of %v", l, line, x)
			}
			fates[x.Fate]++
		}
		if caught != len(d.Taken) {
			t.Fatalf("%v: there are %d animals, not %d", l, len(d.Taken), caught)
		}
	})
	if fates[api.FateKept] < 300 || fates[api.FateBack] < 300 {
		t.Errorf("there were %v animals by fates", fates)
	}
}

// P10.7: behind a line that sees a whale, a trap that it does not call in is met by no whale of the desk, on any track, with a rope that does not part, on its day and as many days more as Ahead says; one that it calls in not before its day, but on it.
func TestNoRope(t *testing.T) {
	called, not := 0, 0
	logs(t, 2000, 50, func(r random, l log) {
		for i, line := range l.lines {
			if !l.begins(i, "whale") {
				continue
			}
			d := l.at(t, i+1)
			calls := map[int]int{}
			words := wordsOf(l.replies[i])
			n := numbersOf(words[1:])
			for j := 0; j < len(n); j += 2 {
				calls[n[j]] = n[j+1]
			}
			want := firstMeetings(t, l.h, d)
			for tag := range l.h.Fleet.Tags {
				day, met := want[tag]
				other, yes := calls[tag]
				if met != yes || day != other {
					t.Fatalf("%v: %s: the trap %d is met on the days %v, and called in on %v", l, line, tag, want, calls)
				}
				called += boolInt(yes)
				not += boolInt(!yes)
			}
			if (words[0] == "haul") != (len(calls) > 0) || words[0] != "haul" && l.replies[i] != "ok" || !slices.IsSorted(tagsOf(n)) {
				t.Fatalf("%v: %s replies %s", l, line, l.replies[i])
			}
		}
	})
	if called < 200 || not < 200 {
		t.Errorf("%d traps were called in, %d were not", called, not)
	}
}

// tagsOf returns every other number: the tags of calls.
func tagsOf(n []int) []int {
	var list []int
	for i := 0; i < len(n); i += 2 {
		list = append(list, n[i])
	}
	return list
}

// firstMeetings returns for each trap the first day, from the one of the desk on, on which a whale may meet it with a rope that may not part.
func firstMeetings(t *testing.T, h api.Harbour, d api.Desk) map[int]int {
	t.Helper()
	first := map[int]int{}
	for day := d.Day; day <= min(d.Day+h.Ahead, 36499); day++ {
		out := outOn(t, h, d, day)
		for _, number := range whalesOf(h, d) {
			where := trueCells(h, d.Sights, number, day)
			for tag, spot := range out {
				rope := h.Ropes[tag]
				holds := rope.Kind == api.RopeStrong || rope.Kind == api.RopeWeak && rope.Part.Hi > h.Pull
				if _, before := first[tag]; !before && holds && where[[2]int{spot.X, spot.Row}] {
					first[tag] = day
				}
			}
		}
	}
	return first
}

// P10.8: no more animals are at the dealer's, were sold, or died there, than were kept, at any time; each animal and each gram has its name.
func TestBought(t *testing.T) {
	sold := 0
	logs(t, 1500, 60, func(r random, l log) {
		for i := range l.lines {
			if !l.begins(i, "catch", "buy", "die", "sell", "back", "drip") {
				continue
			}
			d := l.at(t, i+1)
			balances, e := trade.Book(l.h.Market, d.Events)
			if e != api.OK {
				t.Fatalf("%v: Book returns %d", l, e)
			}
			there, keptOnes := 0, 0
			for _, b := range balances {
				there += b.Left[0] + b.Sold[0] + b.Died[0]
				sold += b.Sold[0]
				if b.Bought[0] != b.Died[0]+b.Sold[0]+b.Back[0]+b.Left[0] || b.Bought[1] != b.Died[1]+b.Sold[1]+b.Back[1]+b.Left[1]+b.Dripped {
					t.Fatalf("%v: a balance is %v", l, b)
				}
			}
			for _, x := range d.Taken {
				keptOnes += boolInt(x.Fate == api.FateKept)
			}
			if there > keptOnes {
				t.Fatalf("%v: %d animals are there, or were, of %d that were kept", l, there, keptOnes)
			}
		}
	})
	if sold < 50 {
		t.Errorf("%d animals were sold", sold)
	}
}

// P10.9: where a trap is, who holds a cell, faults, dangers, numbers and what is left are as the layers say of the desk.
func TestAsked(t *testing.T) {
	logs(t, 500, 30, func(r random, l log) {
		d := l.end(t)
		asks := []string{"faults", "danger"}
		want := []string{faultsOf(t, l.h, d), dangersOf(t, l.h, d)}
		add := func(reply string, words ...any) {
			asks, want = append(asks, strings.TrimSuffix(fmt.Sprintln(words...), "\n")), append(want, reply)
		}
		for tag := range l.h.Fleet.Tags {
			spot, _ := ground.State(l.h.Bay, l.h.Fleet, d.Reports, tag, d.Day)
			add([]string{"", "home", fmt.Sprint("out ", spot.X, " ", spot.Row), fmt.Sprint("ghost ", spot.X, " ", spot.Row)}[spot.State], "where", tag)
		}
		for x := range l.h.Bay.Wide {
			gang, _ := ground.Holder(l.h.Bay, d.Day, x, 0)
			add(fmt.Sprint(gang), "holder", x, 0)
		}
		balances, _ := trade.Book(l.h.Market, d.Events)
		for grade, b := range balances {
			add(fmt.Sprint(b.Left[0], " ", b.Left[1]), "left", l.h.Market[grade].Name)
		}
		var all []api.Caught
		for _, x := range d.Taken {
			if x.Fate == api.FateKept {
				all = append(all, x.Animal)
			}
		}
		for range 3 {
			size := r.span(0, 12)
			counts, e := catch.Counts([]int{size.Lo, size.Hi + 1}, all)
			if e != api.OK {
				t.Fatalf("Counts returns %d", e)
			}
			add(fmt.Sprint(counts[0].Lo, " ", counts[0].Hi), "count", size.Lo, size.Hi)
		}
		if got := run(t, l.h, slices.Concat(l.lines, asks))[len(l.lines):]; !slices.Equal(got, want) {
			t.Fatalf("%v: %q: the replies are\n%q, not\n%q", l, asks, got, want)
		}
	})
}

// faultsOf returns the reply to "faults" of a desk.
func faultsOf(t *testing.T, h api.Harbour, d api.Desk) string {
	t.Helper()
	list, e := ground.Faults(h.Bay, h.Fleet, d.Reports, d.Day)
	if e != api.OK {
		t.Fatalf("Faults returns %d", e)
	}
	var words []string
	for _, f := range list {
		switch f.Kind {
		case api.FaultSeason:
			words = append(words, "season", fmt.Sprint(f.Tag))
		case api.FaultPlace:
			words = append(words, "place", fmt.Sprint(f.Tag))
		case api.FaultGhost:
			words = append(words, "ghost", fmt.Sprint(f.Tag))
		case api.FaultMany:
			words = append(words, "many", fmt.Sprint(f.Licence))
		}
	}
	if len(words) == 0 {
		return "none"
	}
	return strings.Join(words, " ")
}

// dangersOf returns the reply to "danger" of a desk.
func dangersOf(t *testing.T, h api.Harbour, d api.Desk) string {
	t.Helper()
	numbers := whalesOf(h, d)
	w := api.Whales{Many: len(numbers), Speed: h.Speed}
	for i, number := range numbers {
		for _, s := range d.Sights {
			if s.Whale == number {
				w.Sights = append(w.Sights, api.Sight{Whale: i, Day: s.Day, X: s.X, Rows: s.Rows})
			}
		}
	}
	list, e := whale.Danger(h.Bay, w, h.Fleet, d.Reports, h.Ropes, h.Pull, d.Day)
	if e != api.OK {
		t.Fatalf("Danger returns %d", e)
	}
	var words []string
	for _, m := range list {
		words = append(words, fmt.Sprint(numbers[m.Whale]), fmt.Sprint(m.Tag), map[int]string{api.Sure: "sure", api.Open: "open"}[m.Verdict])
	}
	if len(words) == 0 {
		return "none"
	}
	return strings.Join(words, " ")
}

// P10.10: a report says the desk, trap by trap, grade by grade.
func TestTold(t *testing.T) {
	traps := 0
	logs(t, 500, 60, func(r random, l log) {
		d := l.end(t)
		rows := strings.Split(report(t, l.h, l.lines), "\n")
		next := func(want ...any) {
			t.Helper()
			if text := strings.TrimSuffix(fmt.Sprintln(want...), "\n"); len(rows) == 0 || rows[0] != text {
				t.Fatalf("%v: the rows are %q, and not %s", l, rows, text)
			}
			rows = rows[1:]
		}
		next("day", d.Day)
		for tag := range l.h.Fleet.Tags {
			spot, _ := ground.State(l.h.Bay, l.h.Fleet, d.Reports, tag, d.Day)
			if spot.State != api.TrapHome {
				traps++
				next("trap", tag, map[int]string{api.TrapOut: "out", api.TrapGhost: "ghost"}[spot.State], spot.X, spot.Row, spot.Since)
			}
		}
		back := slices.DeleteFunc(slices.Clone(d.Taken), func(x api.Taken) bool { return x.Fate != api.FateBack })
		next("kept", len(d.Taken)-len(back))
		next("back", len(back))
		balances, _ := trade.Book(l.h.Market, d.Events)
		for i, b := range balances {
			next("grade", l.h.Market[i].Name, b.Bought[0], b.Bought[1], b.Died[0], b.Died[1], b.Sold[0], b.Sold[1], b.Back[0], b.Back[1], b.Left[0], b.Left[1], b.Dripped)
		}
		next("end")
		if !slices.Equal(rows, []string{""}) {
			t.Fatalf("%v: behind the end there is %q", l, rows)
		}
	})
	if traps < 300 {
		t.Errorf("%d traps were not at home", traps)
	}
}
