package bay_test

import (
	"fmt"
	"math/rand"
	"strings"

	"homarus/api"
)

// random makes values; it begins with the same number each time.
type random struct{ *rand.Rand }

func newRandom() random { return random{rand.New(rand.NewSource(1))} }

func (r random) in(low, high int) int { return low + r.Intn(high-low+1) }

// of returns one of some numbers.
func (r random) of(list ...int) int { return list[r.Intn(len(list))] }

func (r random) yes() bool { return r.Intn(2) == 0 }

// rarely says yes once in so many times.
func (r random) rarely(times int) bool { return r.Intn(times) == 0 }

func (r random) span(low, high int) api.Span {
	a, b := r.in(low, high), r.in(low, high)
	return span(min(a, b), max(a, b))
}

// near returns a span of numbers below many, most often a narrow one with n.
func (r random) near(n, many int) api.Span {
	if r.rarely(6) {
		return r.span(0, many-1)
	}
	return span(max(n-r.in(0, 1), 0), min(n+r.in(0, 1), many-1))
}

// days returns a season; half of them are all days of the year, and most of the others have days on which random diaries are written.
func (r random) days() api.Span {
	if r.yes() {
		return span(0, 364)
	}
	return span(r.in(0, 6), r.in(6, 364))
}

// bay returns a bay of few columns and rows, with up to three gangs and lines that move.
func (r random) bay() api.Bay {
	b := api.Bay{Wide: r.in(1, 8), Deep: r.in(1, 2), Gangs: r.in(1, 3)}
	for line := range b.Gangs - 1 {
		b.Lines = append(b.Lines, make([]int, b.Deep))
		for row := range b.Deep {
			low := 0
			if line > 0 {
				low = b.Lines[line-1][row]
			}
			b.Lines[line][row] = r.in(low, b.Wide)
		}
	}
	for range r.in(0, 2) * min(len(b.Lines), 1) {
		b.Customs = append(b.Customs, api.Custom{Line: r.Intn(len(b.Lines)), Rows: r.span(0, b.Deep-1), Days: r.span(0, 12), Shift: r.in(-3, 3)})
	}
	return b
}

// fleet returns a valid fleet of a bay, with up to five traps; some licences have a master.
func (r random) fleet(b api.Bay) api.Fleet {
	var f api.Fleet
	for i := range r.in(1, 3) {
		licence := api.Licence{Gang: r.Intn(b.Gangs), Most: r.of(0, 1, 2, 3, 3), Master: -1, Days: r.days()}
		if master := r.in(-1, i-1); master >= 0 && f.Licences[master].Master == -1 {
			licence.Master, licence.Gang = master, f.Licences[master].Gang
		}
		f.Licences = append(f.Licences, licence)
	}
	for range r.in(1, 5) {
		f.Tags = append(f.Tags, r.Intn(len(f.Licences)))
	}
	return f
}

// harbour returns a valid harbour with sizes up to 12, and weights and pulls up to few.
func (r random) harbour() api.Harbour {
	h := api.Harbour{
		Bay: r.bay(), Speed: r.in(0, 2), Memory: r.of(0, 1, 2, 3, 59), Guard: r.of(0, 0, 1, 2), Pull: r.in(1, 4), Ahead: r.of(0, 1, 3, 59),
		Gauge: api.Gauge{Low: r.in(0, 4), High: r.in(8, 12), Eggs: r.yes(), Notch: r.yes(), Soft: r.rarely(3)},
	}
	h.Fleet = r.fleet(h.Bay)
	for range h.Fleet.Tags {
		s := r.span(1, 5)
		h.Ropes = append(h.Ropes, []api.Rope{strong(), strong(), ropeless(), weak(s.Lo, s.Hi)}[r.Intn(4)])
	}
	for i := range r.in(1, 3) {
		s := r.span(1, 12)
		h.Market = append(h.Market, api.Grade{Name: []string{"a", "bb", "chicken"}[i], Low: s.Lo, High: s.Hi, Soft: r.yes(), Weak: r.yes(), Price: r.in(0, 2000)})
	}
	return h
}

// author writes lines of a diary in a harbour.
type author struct {
	random
	h   api.Harbour
	day int
}

func (a *author) tag() int {
	if a.rarely(30) {
		return len(a.h.Fleet.Tags)
	}
	return a.Intn(len(a.h.Fleet.Tags))
}

// cell returns a cell, rarely one just out of the bay.
func (a *author) cell() (x, row int) {
	if a.rarely(20) {
		return a.in(0, a.h.Bay.Wide), a.in(0, a.h.Bay.Deep)
	}
	return a.Intn(a.h.Bay.Wide), a.Intn(a.h.Bay.Deep)
}

func (a *author) grade() string {
	if a.rarely(20) {
		return "d"
	}
	return a.h.Market[a.Intn(len(a.h.Market))*a.in(0, 1)].Name
}

// next writes that a day, or some more, went by.
func (a *author) next() string {
	if a.rarely(10) {
		return fmt.Sprint("day ", a.of(a.day-1, a.day-a.day%365, 36500, a.day))
	}
	a.day = min(a.day+a.of(1, 1, 1, 2, 5), 36499)
	return fmt.Sprint("day ", a.day)
}

func (a *author) catch(tag int) string {
	size := a.span(0, 12)
	if a.yes() {
		size = a.span(4, 8)
	}
	if a.rarely(25) {
		size = []api.Span{span(2500, 2501), span(5, 4)}[a.Intn(2)]
	}
	sex, eggs, notch := "f", "yn?n"[a.Intn(4)], "yn?n"[a.Intn(4)]
	if a.yes() {
		sex = "m"
		if !a.rarely(6) {
			eggs, notch = 'n', 'n'
		}
	}
	return fmt.Sprintf("catch %d %d %d %s %c %c %s", tag, size.Lo, size.Hi, sex, eggs, notch, []string{"hard", "soft", "old"}[a.Intn(3)])
}

func (a *author) whale() string {
	x, row := a.cell()
	columns, rows := a.near(min(x, a.h.Bay.Wide-1), a.h.Bay.Wide), a.near(min(row, a.h.Bay.Deep-1), a.h.Bay.Deep)
	if a.rarely(20) {
		columns.Hi = a.of(a.h.Bay.Wide, columns.Lo-1, 0)
	}
	if a.rarely(20) {
		rows.Lo = a.of(a.h.Bay.Deep, rows.Hi+1)
	}
	return fmt.Sprintf("whale %d %d %d %d %d", a.of(0, 0, 0, 1, 1, 2, 3), columns.Lo, max(columns.Hi, 0), rows.Lo, rows.Hi)
}

// sale writes an event of the ledger; grams are often as few as animals.
func (a *author) sale() string {
	word := []string{"buy", "buy", "die", "sell", "back"}[a.Intn(5)]
	count := a.of(0, 1, 1, 1, 1, 1, 2, 3)
	grams := a.of(count, count*2, count*3, a.in(0, 9))
	if a.rarely(6) {
		return fmt.Sprint("drip ", a.grade(), " ", grams)
	}
	return fmt.Sprint(word, " ", a.grade(), " ", count, " ", grams)
}

func (a *author) ask() string {
	x, row := a.cell()
	size := a.span(0, 12)
	if a.rarely(10) {
		size = []api.Span{span(2500, 2501), span(5, 4)}[a.Intn(2)]
	}
	return []string{
		fmt.Sprint("where ", a.tag()), fmt.Sprint("holder ", x, " ", row), "faults", "danger", fmt.Sprint("count ", size.Lo, " ", size.Hi), fmt.Sprint("left ", a.grade()),
	}[a.Intn(6)]
}

// some writes one line, or some that belong together.
func (a *author) some() []string {
	x, row := a.cell()
	tag := a.tag()
	set := fmt.Sprint("set ", tag, " ", x, " ", row)
	switch a.Intn(18) {
	case 0, 1:
		return []string{a.next()}
	case 2, 3, 4:
		return []string{set}
	case 5, 6:
		return []string{fmt.Sprint("haul ", tag), a.catch(tag)}
	case 7, 8:
		list := []string{set, a.next(), fmt.Sprint("haul ", tag)}
		if a.yes() {
			list[0] = strings.Replace(set, "set", "seen", 1)
		}
		for range a.in(0, 5) {
			list = append(list, a.catch(tag))
		}
		for range a.in(0, 5) {
			list = append(list, a.sale())
		}
		return list
	case 9:
		return []string{fmt.Sprint("seen ", tag, " ", x, " ", row)}
	case 10:
		return []string{fmt.Sprint("cut ", tag)}
	case 11, 12:
		return []string{a.whale()}
	case 13, 14:
		return []string{a.sale()}
	}
	return []string{a.ask()}
}

// lines returns up to so many lines of a diary in a harbour; a few of them are not as they have to be.
func (r random) lines(h api.Harbour, many int) []string {
	a := author{r, h, r.of(0, 0, 0, 365*3, 365*7, 36493)}
	list := []string{fmt.Sprint("day ", a.day)}
	for len(list) < many {
		list = append(list, a.some()...)
	}
	list = list[:r.in(1, many)]
	for i := range list {
		if r.rarely(40) {
			list[i] = r.changedLine(list[i])
		}
	}
	return list
}

// changedLine returns a line in which one byte is another one, is missing, or stands twice; or one word is another one.
func (r random) changedLine(line string) string {
	if line == "" {
		return "x"
	}
	i := r.Intn(len(line))
	switch r.Intn(4) {
	case 0:
		return line[:i] + line[i+1:]
	case 1:
		return line[:i] + line[i:i+1] + line[i:]
	case 2:
		words := strings.Split(line, " ")
		few := []string{"0", "1", "5", "40", "00", "-1", "2501", "36500", "999999", "1000000", "a", "y", "?", "m", "hard", "set", ""}
		words[r.Intn(len(words))] = few[r.Intn(len(few))]
		return strings.Join(words, " ")
	}
	const bytes = "0123456789- sethauldycnwkb?\xff"
	return line[:i] + bytes[r.Intn(len(bytes)):][:1] + line[i+1:]
}

// joined returns the diary of lines.
func joined(lines []string) string {
	text := ""
	for _, line := range lines {
		text += line + "\n"
	}
	return text
}
