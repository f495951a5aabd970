package catch_test

import (
	"math/rand"
	"slices"
	"strings"

	"homarus/api"
)

// random makes values; it begins with the same number each time.
type random struct{ *rand.Rand }

func newRandom() random { return random{rand.New(rand.NewSource(1))} }

func (r random) in(low, high int) int { return low + r.Intn(high-low+1) }

func (r random) span(low, high int) api.Span {
	a, b := r.in(low, high), r.in(low, high)
	return span(min(a, b), max(a, b))
}

func (r random) yes() bool { return r.Intn(2) == 0 }

// gauge returns a gauge of sizes up to most.
func (r random) gauge(most int) api.Gauge {
	s := r.span(0, most)
	return api.Gauge{Low: s.Lo, High: s.Hi, Eggs: r.yes(), Notch: r.yes(), Soft: r.yes()}
}

// caught returns an animal of sizes up to most, which differ by far at most.
func (r random) caught(most, far int) api.Caught {
	low := r.in(0, most)
	c := api.Caught{Size: span(low, min(low+r.in(0, far), most)), Sex: r.in(1, 2), Eggs: n, Notch: n, Shell: r.in(1, 3)}
	if c.Sex == api.Female {
		c.Eggs, c.Notch = r.in(1, 3), r.in(1, 3)
	}
	return c
}

// list returns up to so many animals.
func (r random) list(many, most, far int) []api.Caught {
	var l []api.Caught
	for range r.in(0, many) {
		l = append(l, r.caught(most, far))
	}
	return l
}

// trip returns a valid trip of up to so many pulls, with up to so many animals in each. What may surely be kept often is.
func (r random) trip(pulls, animals int) api.Voyage {
	t := api.Voyage{Gauge: r.gauge(20)}
	if r.yes() {
		t.Gauge = api.Gauge{Low: r.in(0, 3), High: r.in(17, 20), Soft: r.yes(), Eggs: r.yes()}
	}
	for _, tag := range r.Perm(api.MaxTraps)[:r.in(0, pulls)] {
		p := api.Pull{Tag: tag}
		for _, c := range r.list(animals, 20, 5) {
			fate := r.in(kept, dead)
			if fate == kept && !alwaysKept(t.Gauge, c) {
				fate = back
			}
			p.Animals, p.Fates = append(p.Animals, c), append(p.Fates, fate)
		}
		t.Pulls = append(t.Pulls, p)
	}
	return t
}

// changedText returns a text in which one byte is another one, is missing, or stands twice; or one row; or one word is another one.
func (r random) changedText(text string) string {
	i := r.Intn(len(text))
	switch r.Intn(8) {
	case 0:
		return text[:i] + text[i+1:]
	case 1:
		return text[:i] + text[i:i+1] + text[i:]
	case 2, 3:
		rows := strings.SplitAfter(text, "\n")
		i, j := r.Intn(len(rows)), r.Intn(len(rows))
		row := rows[i]
		if r.Intn(3) > 0 {
			rows = slices.Delete(rows, i, i+1)
		}
		if r.Intn(3) > 0 {
			rows = slices.Insert(rows, min(j, len(rows)), row)
		}
		return strings.Join(rows, "")
	case 4, 5, 6:
		words := strings.Split(text, " ")
		few := []string{"kept", "back", "dead", "m", "f", "y", "n", "?", "hard", "soft", "old", "-", "0", "7", "20", "2501", "eggs", "notch", "end", "pull"}
		j := r.Intn(len(words))
		if !strings.Contains(words[j], "\n") {
			words[j] = few[r.Intn(len(few))]
		}
		return strings.Join(words, " ")
	}
	const bytes = "0123456789- \n?kpdmfynhsoegul"
	return text[:i] + bytes[r.Intn(len(bytes)):][:1] + text[i+1:]
}
