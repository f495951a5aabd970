package tank

import (
	"iter"

	"homarus/api"
)

// The numbers of water.
const (
	oxygen = iota
	ammonia
	warmth
	numbers
)

// The ends of what is known of a number.
const (
	lowEnd = iota
	highEnd
	sides
)

// ends are the least and the greatest number that each of the numbers of water may truly have.
type ends [numbers][sides]int

func endsOf(w api.Water) ends {
	var known ends
	for number, c := range changes() {
		known[number] = bothEnds(c.of(w))
	}
	return known
}

func bothEnds(s api.Span) [sides]int { return [sides]int{lowEnd: s.Lo, highEnd: s.Hi} }

func (known ends) water() api.Water {
	return api.Water{Oxygen: known.span(oxygen), Ammonia: known.span(ammonia), Warm: known.span(warmth)}
}

func (known ends) span(number int) api.Span {
	return api.Span{Lo: known[number][lowEnd], Hi: known[number][highEnd]}
}

// change says how one of the numbers of water changes in an hour.
type change struct {
	// of returns what water says of this number.
	of func(w api.Water) api.Span
	// load returns what each kilogram of animals adds to the water of a tank.
	load func(p api.Plant) api.Span
	// given returns what is added to each litre.
	given  func(p api.Plant) api.Span
	bounds api.Span
}

// changes returns how each of the numbers of water changes. The ends of each span follow from those of other ones on the same side, as use is a load below 0.
func changes() [numbers]change {
	nothing := func(api.Plant) api.Span { return api.Span{} }
	return [numbers]change{
		oxygen: {
			of:     func(w api.Water) api.Span { return w.Oxygen },
			load:   func(p api.Plant) api.Span { return api.Span{Lo: -p.Use.Hi, Hi: -p.Use.Lo} },
			given:  func(p api.Plant) api.Span { return p.Air },
			bounds: api.Span{Lo: 0, Hi: api.MaxReading},
		},
		ammonia: {
			of:     func(w api.Water) api.Span { return w.Ammonia },
			load:   func(p api.Plant) api.Span { return p.Waste },
			given:  nothing,
			bounds: api.Span{Lo: 0, Hi: api.MaxReading},
		},
		warmth: {
			of:     func(w api.Water) api.Span { return w.Warm },
			load:   nothing,
			given:  func(p api.Plant) api.Span { return p.Gain },
			bounds: api.Span{Lo: api.LeastWarm, Hi: api.MostWarm},
		},
	}
}

// basin is a tank of a plant, with all that the plant says.
type basin struct {
	api.Plant
	api.Tank
	number int
}

func basinOf(p api.Plant, tank int) basin { return basin{p, p.Tanks[tank], tank} }

// course hands out the hours from 0 on, and what is known of the water in each one.
func (b basin) course(s scenario, hours int) iter.Seq2[int, ends] {
	return func(yield func(int, ends) bool) {
		known := endsOf(b.Water)
		for hour := range hours + 1 {
			if !yield(hour, known) {
				return
			}
			known = b.next(known, b.flow(s, hour))
		}
	}
}

// flow returns how much the pumps that work give from an hour to the next one.
func (b basin) flow(s scenario, hour int) int {
	litres := 0
	for number, pump := range b.Pumps {
		if pump.Tank == b.number && s.works(number, hour) {
			litres += pump.Flow
		}
	}
	return litres
}

// kilogram is in grams; all parts of a change are multiplied by it, so that they are whole numbers.
const kilogram = 1000

// next returns what is known of the water an hour later.
func (b basin) next(now ends, flow int) ends {
	var later ends
	for number, c := range changes() {
		sea, load, given := bothEnds(c.of(b.Sea)), bothEnds(c.load(b.Plant)), bothEnds(c.given(b.Plant))
		// total is that of all litres, so that it is divided only once.
		total := func(side int) int {
			mixed := (b.Litres-flow)*now[number][side] + flow*sea[side]
			return kilogram*(mixed+b.Litres*given[side]) + load[side]*b.Grams
		}
		later[number][lowEnd] = bound(divideDown(total(lowEnd), kilogram*b.Litres), c.bounds)
		later[number][highEnd] = bound(divideUp(total(highEnd), kilogram*b.Litres), c.bounds)
	}
	return later
}

func bound(n int, s api.Span) int { return min(max(n, s.Lo), s.Hi) }

// divideDown returns the greatest whole number that is not above n / by, also if n is below 0.
func divideDown(n, by int) int {
	part := n / by
	if n%by < 0 {
		part--
	}
	return part
}

func divideUp(n, by int) int { return -divideDown(-n, by) }
