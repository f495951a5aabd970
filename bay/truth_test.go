package bay_test

import (
	"fmt"
	"regexp"
	"slices"
	"strconv"
	"strings"
	"testing"

	"homarus/api"
	"homarus/bay"
	"homarus/catch"
	"homarus/ground"
	"homarus/trade"
	"homarus/whale"
)

// The chapter's section Terms, followed word by word, and held against what the package says.

// trueForms returns the forms of lines: a # is a number, a * a word.
func trueForms() []*regexp.Regexp {
	var list []*regexp.Regexp
	for _, form := range []string{
		"day #", "set # # #", "haul #", "seen # # #", "cut #", `catch # # # (m|f) (y|n|\?) (y|n|\?) (hard|soft|old)`, "whale # # # # #",
		"buy * # #", "die * # #", "sell * # #", "back * # #", "drip * #", "where #", "holder # #", "faults", "danger", "count # #", "left *",
	} {
		form = strings.ReplaceAll(form, "#", "(0|[1-9][0-9]{0,5})")
		form = strings.ReplaceAll(form, " * ", " ([^ ]+) ")
		form = strings.TrimSuffix(form, " *")
		if form == "left" {
			form = "left ([^ ]+)"
		}
		list = append(list, regexp.MustCompile("^"+form+"$"))
	}
	return list
}

// trueWords returns the words of a line, if it is as it has to be.
func trueWords(forms []*regexp.Regexp, line string) ([]string, bool) {
	for _, form := range forms {
		if form.MatchString(line) {
			return strings.Split(line, " "), true
		}
	}
	return nil, false
}

// trueDesk is a desk as the document has it.
type trueDesk struct {
	api.Desk
	h     api.Harbour
	forms []*regexp.Regexp
}

func newTrueDesk(h api.Harbour, forms []*regexp.Regexp) *trueDesk {
	return &trueDesk{h: h, forms: forms}
}

// reply does a line, and returns its reply.
func (d *trueDesk) reply(line string) string {
	words, ok := trueWords(d.forms, line)
	if !ok {
		return "error 2"
	}
	var n []int
	for _, word := range words[1:] {
		number, err := strconv.Atoi(word)
		if err != nil {
			number = -1
		}
		n = append(n, number)
	}
	switch words[0] {
	case "set", "haul", "seen", "cut", "catch", "where":
		if n[0] >= len(d.h.Fleet.Tags) {
			return "error 6"
		}
		return d.ofTrap(words, n)
	case "buy", "die", "sell", "back", "drip", "left":
		grade := slices.IndexFunc(d.h.Market, func(g api.Grade) bool { return g.Name == words[1] })
		if grade < 0 {
			return "error 6"
		}
		return d.ofGrade(words[0], grade, n)
	case "day":
		if n[0] < d.Day || n[0] > 36499 {
			return "error 1"
		}
		d.Day = n[0]
		return "ok"
	case "whale":
		return d.ofWhale(n)
	}
	return d.asked(words[0], n)
}

func said(e api.Errno) string { return fmt.Sprint("error ", int(e)) }

// state returns the state of a trap today.
func (d *trueDesk) state(tag int) api.Spot {
	spot, e := ground.State(d.h.Bay, d.h.Fleet, d.Reports, tag, d.Day)
	if e != api.OK {
		panic(e)
	}
	return spot
}

// ofTrap does a line with a tag.
func (d *trueDesk) ofTrap(words []string, n []int) string {
	tag := n[0]
	now := d.state(tag)
	report := api.Report{Tag: tag, Day: d.Day}
	switch words[0] {
	case "where":
		return [...]string{"", "home", fmt.Sprint("out ", now.X, " ", now.Row), fmt.Sprint("ghost ", now.X, " ", now.Row)}[now.State]
	case "catch":
		return d.caught(words, n)
	case "set":
		report.Kind, report.X, report.Row = 2, n[1], n[2]
		if e := d.setError(report, now); e != api.OK {
			return said(e)
		}
	case "haul":
		report.Kind = 1
		if now.State == 1 {
			return "error 10"
		}
		for _, other := range d.Reports {
			if other.Tag == tag && other.Day == d.Day && other.Kind != 1 {
				return "error 13"
			}
		}
	case "seen":
		report.Kind, report.X, report.Row = 3, n[1], n[2]
		if _, e := ground.Book(d.h.Bay, d.h.Fleet, append(slices.Clone(d.Reports), report)); e != api.OK {
			return said(e)
		}
	case "cut":
		report.Kind = 4
		if now.State != 2 {
			return "error 10"
		}
	}
	d.Reports = append(d.Reports, report)
	return "ok"
}

// setError returns the error with which a trap is not set.
func (d *trueDesk) setError(set api.Report, now api.Spot) api.Errno {
	b, f := d.h.Bay, d.h.Fleet
	own := f.Tags[set.Tag]
	licence := f.Licences[own]
	if set.X >= b.Wide || set.Row >= b.Deep {
		return api.ErrRange
	}
	if now.State != 1 {
		return api.ErrState
	}
	if n := d.Day % 365; n < licence.Days.Lo || n > licence.Days.Hi {
		return api.ErrLate
	}
	if gang, _ := ground.Holder(b, d.Day, set.X, set.Row); gang != licence.Gang {
		return api.ErrClash
	}
	faults, _ := ground.Faults(b, f, append(slices.Clone(d.Reports), set), d.Day)
	for _, fault := range faults {
		if fault.Kind == api.FaultMany && (fault.Licence == own || fault.Licence == licence.Master) {
			return api.ErrFull
		}
	}
	shut, _ := whale.Shut(b, d.whales(d.counting()), d.h.Guard, d.Day)
	for _, columns := range shut[set.Row] {
		if set.X >= columns.Lo && set.X <= columns.Hi && d.h.Ropes[set.Tag].Kind != 3 {
			return api.ErrOpen
		}
	}
	return api.OK
}

// counting returns the numbers of the whales that were seen today, or not more than Memory days before.
func (d *trueDesk) counting() []int {
	var list []int
	for _, s := range d.Sights {
		if d.Day-s.Day <= d.h.Memory {
			list = append(list, s.Whale)
		}
	}
	slices.Sort(list)
	return slices.Compact(list)
}

// whales returns some whales, numbered from 0 on.
func (d *trueDesk) whales(numbers []int) api.Whales {
	w := api.Whales{Many: len(numbers), Speed: d.h.Speed}
	for _, s := range d.Sights {
		if i := slices.Index(numbers, s.Whale); i >= 0 {
			s.Whale = i
			w.Sights = append(w.Sights, s)
		}
	}
	return w
}

func (d *trueDesk) caught(words []string, n []int) string {
	hauled, many := false, 0
	for _, r := range d.Reports {
		hauled = hauled || r.Kind == 1 && r.Tag == n[0] && r.Day == d.Day
	}
	for _, t := range d.Taken {
		if t.Tag == n[0] && t.Day == d.Day {
			many++
		}
	}
	if !hauled {
		return "error 10"
	}
	c := api.Caught{
		Size: span(n[1], n[2]), Sex: map[string]int{"m": 1, "f": 2}[words[4]],
		Eggs: map[string]int{"y": 1, "n": 2, "?": 3}[words[5]], Notch: map[string]int{"y": 1, "n": 2, "?": 3}[words[6]],
		Shell: map[string]int{"hard": 1, "soft": 2, "old": 3}[words[7]],
	}
	if e := catch.CheckCaught(c); e != api.OK {
		return said(e)
	}
	if many >= 30 {
		return "error 5"
	}
	taken, reply := api.Taken{Tag: n[0], Day: d.Day, Animal: c, Fate: 2}, "back"
	if keep, _ := catch.Keep(d.h.Gauge, c); keep == 1 {
		taken.Fate, reply = 1, "kept"
	} else if c.Eggs == 1 {
		reply = "back notched"
	}
	d.Taken = append(d.Taken, taken)
	return reply
}

func (d *trueDesk) ofWhale(n []int) string {
	seen := 0
	for _, s := range d.Sights {
		seen = max(seen, s.Whale+1)
	}
	if n[0] > seen {
		return "error 6"
	}
	sights := append(slices.Clone(d.Sights), api.Sight{Whale: n[0], Day: d.Day, X: span(n[1], n[2]), Rows: span(n[3], n[4])})
	if e := whale.Check(d.h.Bay, api.Whales{Many: max(seen, n[0]+1), Speed: d.h.Speed, Sights: sights}); e != api.OK {
		return said(e)
	}
	d.Sights = sights
	last := d.Day + d.h.Ahead
	if last > 36499 {
		last = 36499
	}
	calls, e := whale.Haul(d.h.Bay, d.whales(d.counting()), d.h.Fleet, d.Reports, d.h.Ropes, d.h.Pull, d.Day, last)
	if e != api.OK {
		panic(e)
	}
	if len(calls) == 0 {
		return "ok"
	}
	reply := "haul"
	for _, c := range calls {
		reply += fmt.Sprint(" ", c.Tag, " ", c.Day)
	}
	return reply
}

// ofGrade does a line with the name of a grade.
func (d *trueDesk) ofGrade(word string, grade int, n []int) string {
	if word == "left" {
		l, _ := trade.Book(d.h.Market, d.Events)
		return fmt.Sprint(l[grade].Left[0], " ", l[grade].Left[1])
	}
	event := api.Event{Kind: map[string]int{"buy": 1, "die": 2, "sell": 3, "back": 4, "drip": 5}[word], Grade: grade, Grams: n[len(n)-1]}
	if word != "drip" {
		event.Count = n[1]
	}
	if word == "buy" {
		bought, many := event.Count, 0
		for _, other := range d.Events {
			bought += map[int]int{1: 1, 4: -1}[other.Kind] * other.Count
		}
		for _, t := range d.Taken {
			if t.Fate == 1 {
				many++
			}
		}
		if bought > many {
			return "error 4"
		}
	}
	events := append(slices.Clone(d.Events), event)
	if _, e := trade.Book(d.h.Market, events); e != api.OK {
		return said(e)
	}
	d.Events = events
	return "ok"
}

// asked replies to a line that asks, and has neither a tag nor a grade.
func (d *trueDesk) asked(word string, n []int) string {
	reply := ""
	switch word {
	case "holder":
		gang, e := ground.Holder(d.h.Bay, d.Day, n[0], n[1])
		if e != api.OK {
			return said(e)
		}
		return fmt.Sprint(gang)
	case "faults":
		list, _ := ground.Faults(d.h.Bay, d.h.Fleet, d.Reports, d.Day)
		for _, f := range list {
			reply += fmt.Sprint([...]string{"", " season ", " place ", " ghost ", " many "}[f.Kind], map[bool]int{true: f.Licence, false: f.Tag}[f.Kind == 4])
		}
	case "danger":
		numbers := d.counting()
		list, _ := whale.Danger(d.h.Bay, d.whales(numbers), d.h.Fleet, d.Reports, d.h.Ropes, d.h.Pull, d.Day)
		for _, m := range list {
			reply += fmt.Sprint(" ", numbers[m.Whale], " ", m.Tag, " ", map[int]string{1: "sure", 3: "open"}[m.Verdict])
		}
	case "count":
		if n[0] > 2500 || n[1] > 2500 {
			return "error 1"
		}
		if n[0] > n[1] {
			return "error 8"
		}
		least, most := d.counted(n[0], n[1])
		return fmt.Sprint(least, " ", most)
	}
	if reply == "" {
		return "none"
	}
	return reply[1:]
}

// counted goes through all true sizes of all kept animals.
func (d *trueDesk) counted(from, to int) (least, most int) {
	for _, t := range d.Taken {
		inside, all := 0, 0
		for size := t.Animal.Size.Lo; size <= t.Animal.Size.Hi; size++ {
			all++
			if size >= from && size <= to {
				inside++
			}
		}
		if t.Fate == 1 && inside > 0 {
			most++
		}
		if t.Fate == 1 && inside == all {
			least++
		}
	}
	return least, most
}

// report returns the report of the desk.
func (d *trueDesk) report() string {
	text := fmt.Sprintln("day", d.Day)
	for tag := range d.h.Fleet.Tags {
		if now := d.state(tag); now.State != 1 {
			text += fmt.Sprintln("trap", tag, [...]string{2: "out", 3: "ghost"}[now.State], now.X, now.Row, now.Since)
		}
	}
	fates := [4]int{}
	for _, t := range d.Taken {
		fates[t.Fate]++
	}
	text += fmt.Sprintln("kept", fates[1]) + fmt.Sprintln("back", fates[2])
	l, _ := trade.Book(d.h.Market, d.Events)
	for i, x := range l {
		text += fmt.Sprintln("grade", d.h.Market[i].Name, x.Bought[0], x.Bought[1], x.Died[0], x.Died[1], x.Sold[0], x.Sold[1], x.Back[0], x.Back[1], x.Left[0], x.Left[1], x.Dripped)
	}
	return text + "end\n"
}

// kindOf returns the first word of a line, and that of its reply, with the number if it is an error.
func kindOf(line, reply string) [2]string {
	first, _, _ := strings.Cut(line, " ")
	word, _, _ := strings.Cut(reply, " ")
	if _, err := strconv.Atoi(word); err == nil {
		word = "numbers"
	}
	if word == "error" {
		word = reply
	}
	return [2]string{first, word}
}

// P10.1, P10.2: Run, Keep and Report say what the chapter's section Terms does of any diary.
func TestTrueDiaries(t *testing.T) {
	r := newRandom()
	forms := trueForms()
	seen := map[[2]string]int{}
	for range 3000 {
		h := r.harbour()
		lines := r.lines(h, 80)
		d := newTrueDesk(h, forms)
		want := ""
		for _, line := range lines {
			reply := d.reply(line)
			seen[kindOf(line, reply)]++
			want += reply + "\n"
		}
		text := joined(lines)
		if e := bay.Check(h); e != api.OK {
			t.Fatalf("%v: Check returns %d", h, e)
		}
		if got, e := bay.Run(h, text); got != want || e != api.OK {
			t.Fatalf("%v\n%q: Run returns\n%q %d, not\n%q", h, text, got, e, want)
		}
		if got, e := bay.Keep(h, text); !sameDesk(got, d.Desk) || e != api.OK {
			t.Fatalf("%v\n%q: Keep returns\n%v %d, not\n%v", h, text, got, e, d.Desk)
		}
		if got, e := bay.Report(h, text); got != d.report() || e != api.OK {
			t.Fatalf("%v\n%q: Report returns\n%q %d, not\n%q", h, text, got, e, d.report())
		}
	}
	for word, kinds := range map[string]string{
		"day": "ok,error 1", "set": "ok,error 6,error 1,error 10,error 13,error 9,error 5,error 14", "haul": "ok,error 6,error 10,error 13", "seen": "ok,error 6,error 1,error 9", "cut": "ok,error 6,error 10",
		"catch": "kept,back,error 6,error 10,error 1,error 8,error 9", "whale": "ok,haul,error 6,error 1,error 8,error 9", "buy": "ok,error 6,error 4,error 2,error 9",
		"die": "ok,error 6,error 4,error 2,error 9", "sell": "ok,error 6,error 4,error 2,error 9", "back": "ok,error 6,error 4,error 2,error 9", "drip": "ok,error 6,error 4,error 9",
		"where": "home,out,ghost,error 6", "holder": "numbers,error 1", "faults": "none,season,place,ghost,many", "danger": "none,numbers", "count": "numbers,error 1,error 8", "left": "numbers,error 6",
	} {
		for kind := range strings.SplitSeq(kinds, ",") {
			if seen[[2]string{word, kind}] < 20 {
				t.Errorf("%s had the reply %s %d times", word, kind, seen[[2]string{word, kind}])
			}
		}
	}
}

// P10.1: a line that is not as said is refused with ErrForm, whatever it is, and before all else.
func TestTrueForms(t *testing.T) {
	r := newRandom()
	forms := trueForms()
	right, wrong := 0, 0
	for range 1000 {
		h := r.harbour()
		for _, line := range r.lines(h, 30) {
			for range r.in(0, 3) {
				line = r.changedLine(line)
			}
			if strings.Contains(line, "\n") {
				continue
			}
			got, e := bay.Run(h, line+"\n")
			_, ok := trueWords(forms, line)
			if ok {
				right++
			} else {
				wrong++
			}
			if want := newTrueDesk(h, forms).reply(line) + "\n"; got != want || e != api.OK || !ok && got != "error 2\n" {
				t.Fatalf("%q: Run returns %q %d, not %q", line, got, e, want)
			}
		}
	}
	if right < 1000 || wrong < 1000 {
		t.Errorf("%d lines were right, %d were wrong", right, wrong)
	}
}
