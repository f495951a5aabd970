package tank_test

import (
	"math/rand"
	"slices"
	"strings"

	"homarus/api"
	"homarus/tank"
)

// random makes values; it begins with the same number each time.
type random struct{ *rand.Rand }

func newRandom() random { return random{rand.New(rand.NewSource(1))} }

func (r random) in(low, high int) int { return low + r.Intn(high-low+1) }

func (r random) span(low, high int) api.Span {
	a, b := r.in(low, high), r.in(low, high)
	return span(min(a, b), max(a, b))
}

// near returns a span of at most so many numbers more than one.
func (r random) near(low, high, width int) api.Span {
	n := r.in(low, high)
	return span(n, min(n+r.in(0, width), high))
}

// smallPlant returns a plant whose true courses can be gone through; some are at a bound of a number.
func (r random) smallPlant() api.Plant {
	base := []int{0, 10, 99990}[r.Intn(3)]
	cold := []int{-50, -3, 390}[r.Intn(3)]
	water := func() api.Water {
		return api.Water{Oxygen: r.near(base, base+10, 2), Ammonia: r.near(base, base+10, 2), Warm: r.near(cold, cold+10, 2)}
	}
	p := api.Plant{
		Sea:   water(),
		Use:   r.near(0, 8, 2),
		Waste: r.near(0, 8, 2),
		Air:   r.near(0, 4, 1),
		Gain:  r.near(-3, 3, 1),
		Least: min(base+r.in(-2, 10), 100000),
		Most:  base + r.in(0, 10),
		Warm:  r.near(max(cold-4, -50), cold+5, 9),
	}
	p.Least = max(p.Least, 0)
	for range r.in(1, 2) {
		p.Tanks = append(p.Tanks, api.Tank{Litres: r.in(1, 5), Grams: []int{0, 400, 1000, 1500, 7000}[r.Intn(5)], Water: water()})
	}
	r.addPumps(&p, 3)
	if r.Intn(4) > 0 {
		r.fitLimits(&p, 3)
	}
	return p
}

// fitLimits sets the limits of a plant so that they are just kept for some hours if no pump fails, or not quite.
func (r random) fitLimits(p *api.Plant, hours int) {
	list, _ := tank.Run(*p, -1, 0, hours)
	p.Least, p.Most, p.Warm = 100000, 0, span(400, -50)
	for _, w := range slices.Concat(list...) {
		p.Least, p.Most = min(p.Least, w.Oxygen.Lo), max(p.Most, w.Ammonia.Hi)
		p.Warm = span(min(p.Warm.Lo, w.Warm.Lo), max(p.Warm.Hi, w.Warm.Hi))
	}
	switch r.Intn(6) {
	case 0:
		p.Least = min(p.Least+r.in(1, 3), 100000)
	case 1:
		p.Most = max(p.Most-r.in(1, 3), 0)
	case 2:
		p.Warm.Lo = min(p.Warm.Lo+1, p.Warm.Hi)
	case 3:
		p.Warm.Hi = max(p.Warm.Hi-1, p.Warm.Lo)
	}
}

// addPumps adds at most so many pumps.
func (r random) addPumps(p *api.Plant, most int) {
	free := make([]int, len(p.Tanks))
	for i, t := range p.Tanks {
		free[i] = t.Litres
	}
	for range r.in(0, most) {
		i := r.Intn(len(p.Tanks))
		flow := r.in(0, free[i])
		free[i] -= flow
		p.Pumps = append(p.Pumps, api.Pump{Tank: i, Flow: flow})
	}
}

func (r random) water() api.Water {
	return api.Water{Oxygen: r.span(0, 100000), Ammonia: r.span(0, 100000), Warm: r.span(-50, 400)}
}

// largePlant returns any valid plant.
func (r random) largePlant() api.Plant {
	p := api.Plant{
		Sea:   r.water(),
		Use:   r.span(0, 100000),
		Waste: r.span(0, 100000),
		Air:   r.span(0, []int{100, 100000}[r.Intn(2)]),
		Gain:  r.span(-400, 400),
		Least: r.in(0, 100000),
		Most:  r.in(0, 100000),
		Warm:  r.span(-50, 400),
	}
	for range r.in(1, 6) {
		p.Tanks = append(p.Tanks, api.Tank{Litres: r.in(1, 100000), Grams: r.in(0, []int{1000, 100000, 10000000}[r.Intn(3)]), Water: r.water()})
	}
	r.addPumps(&p, 8)
	return p
}

// wellPlant returns a large plant whose tanks just keep the limits for some hours if no pump fails, or not quite.
func (r random) wellPlant() api.Plant {
	p := r.largePlant()
	good := api.Water{Oxygen: span(5000, 5000+r.in(0, 200)), Ammonia: span(0, r.in(0, 20)), Warm: span(100-r.in(0, 9), 100+r.in(0, 9))}
	p.Sea, p.Use, p.Waste, p.Air, p.Gain = good, r.near(3000, 6000, 500), r.near(100, 300, 50), r.near(0, 20, 5), r.near(-2, 2, 1)
	for i := range p.Tanks {
		p.Tanks[i].Water = good
		p.Tanks[i].Grams = min(r.in(0, 100)*p.Tanks[i].Litres, 10000000)
	}
	r.fitLimits(&p, r.in(1, 48))
	return p
}

// log returns a log of some hours up to the last one, whose readings are in the water of these hours.
func (r random) log(course []api.Water) []api.Reading {
	var log []api.Reading
	for hour, w := range course {
		if r.Intn(3) > 0 {
			log = append(log, at(hour, r.of(w.Oxygen), r.of(w.Ammonia), r.of(w.Warm)))
		}
	}
	return log
}

// of returns a number of a span, often one of its ends.
func (r random) of(s api.Span) int { return []int{s.Lo, s.Hi, r.in(s.Lo, s.Hi)}[r.Intn(3)] }

// lots returns lots with few animals, or with many.
func (r random) lots() []api.Lot {
	most := []int{1, 3, 10, 10000}[r.Intn(4)]
	var l []api.Lot
	for range r.in(0, 20) {
		l = append(l, api.Lot{Strong: r.in(0, most), Weak: r.in(0, most) * r.Intn(2)})
	}
	return l
}

// changedText returns a text in which one byte is another one, is missing, or stands twice; or one row.
func (r random) changedText(text string) string {
	i := r.Intn(len(text))
	switch r.Intn(6) {
	case 0:
		return text[:i] + text[i+1:]
	case 1:
		return text[:i] + text[i:i+1] + text[i:]
	case 2:
		rows := strings.SplitAfter(text, "\n")
		i, j := r.Intn(len(rows)), r.Intn(len(rows))
		row := rows[i]
		if r.Intn(3) > 0 {
			rows = slices.Delete(rows, i, i+1)
		}
		if r.Intn(3) > 0 {
			rows = slices.Insert(rows, min(j, len(rows)), row)
		}
		return strings.Join(rows, "")
	}
	const bytes = "0123456789- \nlogatend"
	return text[:i] + bytes[r.Intn(len(bytes)):][:1] + text[i+1:]
}
