package trade_test

import (
	"math/rand"
	"slices"
	"strings"

	"homarus/api"
)

// random makes values; it begins with the same number each time.
type random struct{ *rand.Rand }

func newRandom() random { return random{rand.New(rand.NewSource(1))} }

func (r random) in(low, high int) int { return low + r.Intn(high-low+1) }

func (r random) yes() bool { return r.Intn(2) == 0 }

func (r random) span(low, high int) api.Span {
	a, b := r.in(low, high), r.in(low, high)
	return span(min(a, b), max(a, b))
}

// near returns a span of at most so many numbers more than one.
func (r random) near(low, high, width int) api.Span {
	n := r.in(low, high)
	return span(n, min(n+r.in(0, width), high))
}

// narrow returns a part of a span.
func (r random) narrow(s api.Span) api.Span { return r.span(s.Lo, s.Hi) }

// market returns a valid market, with grades of weights up to most; often the last one takes nearly all.
func (r random) market(most int) []api.Grade {
	m := manyGrades(r.in(1, 8))
	for i := range m {
		s := r.span(1, most)
		m[i].Low, m[i].High, m[i].Soft, m[i].Weak = s.Lo, s.Hi, r.yes(), r.yes()
		m[i].Price = []int{0, r.in(1, 3000), r.in(1, 100000)}[r.Intn(3)]
	}
	if last := &m[len(m)-1]; r.yes() {
		last.Low, last.High, last.Soft, last.Weak = 1, most, true, true
	}
	return m
}

// caught returns an animal of sizes up to 12.
func (r random) caught() api.Caught {
	c := api.Caught{Size: r.near(0, 12, 4), Sex: r.in(1, 2), Eggs: n, Notch: n, Shell: r.in(1, 3)}
	if c.Sex == api.Female && r.yes() {
		c.Eggs, c.Notch = r.in(1, 3), r.in(1, 3)
	}
	return c
}

// gauge returns a gauge of sizes up to 12; many animals may be kept.
func (r random) gauge() api.Gauge {
	return api.Gauge{Low: r.in(0, 4), High: r.in(8, 12), Eggs: r.yes(), Notch: r.yes(), Soft: r.Intn(4) == 0}
}

// scaled returns an animal of a weight up to most, unsure by at most so many grams.
func (r random) scaled(most, unsure int) api.Scaled {
	return api.Scaled{Animal: r.caught(), Grams: r.near(1, most, unsure), Weak: []int{y, n, n, o}[r.Intn(4)]}
}

// list returns up to so many of such animals.
func (r random) list(many, most, unsure int) []api.Scaled {
	var l []api.Scaled
	for range r.in(0, many) {
		l = append(l, r.scaled(most, unsure))
	}
	return l
}

// ledger returns a valid ledger of up to so many events; what is bought weighs up to most for each animal.
func (r random) ledger(grades, many, most int) []api.Event {
	var l []api.Event
	left := make([][2]int, grades)
	for range r.in(0, many) {
		x := api.Event{Kind: r.in(api.EventBuy, api.EventDrip), Grade: r.Intn(grades)}
		now := &left[x.Grade]
		if x.Kind == api.EventBuy || x.Kind != api.EventDrip && now[0] == 0 {
			x.Kind, x.Count = api.EventBuy, r.in(1, 9)
			x.Grams = x.Count * r.in(1, most)
			// All that is left can be taken by one event.
			if now[1]+x.Grams <= 1000000 {
				now[0], now[1] = now[0]+x.Count, now[1]+x.Grams
				l = append(l, x)
			}
			continue
		}
		if x.Kind != api.EventDrip {
			x.Count = r.in(1, now[0])
		}
		// Each one that is left weighs a gram or more; the last ones weigh all that was left.
		now[0] -= x.Count
		x.Grams = now[1]
		if now[0] > 0 {
			x.Grams = r.in(0, now[1]-now[0])
		}
		now[1] -= x.Grams
		l = append(l, x)
	}
	return l
}

// orders returns up to so many orders; some are alike, and some are for nothing.
func (r random) orders(grades, many, most int) []api.Order {
	var list []api.Order
	for range r.in(0, many) {
		list = append(list, order(r.Intn(grades), r.in(1, most), r.in(0, 4)*r.in(1, 3)))
	}
	return list
}

// traps returns the traps of boats; some have as many as others, and some have none.
func (r random) traps() []int {
	most := []int{1, 3, 10, 40}[r.Intn(4)]
	list := []int{r.in(1, most)}
	for range r.in(0, 11) {
		list = append(list, r.in(0, most))
	}
	r.Shuffle(len(list), func(i, j int) { list[i], list[j] = list[j], list[i] })
	return list
}

// changedText returns a text in which one byte is another one, is missing, or stands twice; or one row; or one word is another one.
func (r random) changedText(text string) string {
	if text == "" {
		return "\n"
	}
	i := r.Intn(len(text))
	switch r.Intn(8) {
	case 0:
		return text[:i] + text[i+1:]
	case 1:
		return text[:i] + text[i:i+1] + text[i:]
	case 2, 3:
		rows := strings.SplitAfter(text, "\n")
		i, j := r.Intn(len(rows)), r.Intn(len(rows))
		rows = slices.Insert(rows, j, rows[i])
		if r.yes() {
			rows = slices.Delete(rows, i, i+1)
		}
		return strings.Join(rows, "")
	case 4, 5, 6:
		words := strings.Split(text, " ")
		few := []string{"a", "zb", "zzc", "nobody", "0", "1", "9", "00", "1000001", "10000000", ""}
		if j := r.Intn(len(words)); !strings.Contains(words[j], "\n") {
			words[j] = few[r.Intn(len(few))]
		}
		return strings.Join(words, " ")
	}
	const bytes = "0123456789- \nbuydieslackrpz"
	return text[:i] + bytes[r.Intn(len(bytes)):][:1] + text[i+1:]
}
