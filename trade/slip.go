package trade

import (
	"homarus/api"
	"homarus/catch"
)

// Slip returns what a slip for animals may come to: a line for each grade, how many are refused, and what has to be paid for all.
func Slip(m []api.Grade, g api.Gauge, l []api.Scaled) (lines []api.Line, refused, cents api.Span, e api.Errno) {
	s, e := sumUp(m, g, l)
	if e != api.OK {
		return nil, api.Span{}, api.Span{}, e
	}
	for grade := range m {
		lines = append(lines, s.lines[grade].line())
	}
	return lines, s.lines[len(m)].animals.span(), s.paid.span(), api.OK
}

// slip is what animals may come to: by grades, with those that are refused behind the last one, and in all.
type slip struct {
	lines []line
	paid  ends
}

// line is how many animals of a grade there may be, their grams, and what may be paid for them.
type line struct{ animals, grams, paid ends }

func (n line) line() api.Line {
	return api.Line{Count: n.animals.span(), Grams: n.grams.span(), Cents: n.paid.span()}
}

// sumUp returns the first error of a slip, otherwise what it comes to.
func sumUp(m []api.Grade, g api.Gauge, l []api.Scaled) (slip, api.Errno) {
	if e := Check(m); e != api.OK {
		return slip{}, e
	}
	if e := catch.Check(g); e != api.OK {
		return slip{}, e
	}
	if len(l) > api.MaxScaled {
		return slip{}, api.ErrFull
	}
	s := slip{lines: make([]line, len(m)+1)}
	for _, x := range l {
		all, e := salesOf(m, x)
		if e != api.OK {
			return slip{}, e
		}
		if keep, _ := catch.Keep(g, x.Animal); keep != api.Sure {
			return slip{}, api.ErrClash
		}
		s.add(all)
	}
	return s, api.OK
}

// add adds an animal to a slip. The ends of each sum are reached, as what one animal truly is says nothing of another one.
func (s *slip) add(all sales) {
	for grade, n := range s.lines {
		s.lines[grade] = line{
			animals: plus(n.animals, all.endsIn(grade, sale.animals)),
			grams:   plus(n.grams, all.endsIn(grade, sale.weight)),
			paid:    plus(n.paid, all.endsIn(grade, sale.paid)),
		}
	}
	// This is not the sum of all lines: an animal is in one of them alone.
	s.paid = plus(s.paid, all.ends(sale.paid))
}
