package trade

import (
	"iter"
	"math"

	"homarus/api"
)

// Grades says for each grade whether it is that of the animal, and whether the animal is refused.
func Grades(m []api.Grade, x api.Scaled) (grades []int, refused int, e api.Errno) {
	all, e := salesOf(m, x)
	if e != api.OK {
		return nil, 0, e
	}
	for grade := range m {
		grades = append(grades, all.verdict(grade))
	}
	return grades, all.verdict(len(m)), api.OK
}

// Pay returns the least and the greatest number of cents that may have to be paid for the animal.
func Pay(m []api.Grade, x api.Scaled) (api.Span, api.Errno) {
	all, e := salesOf(m, x)
	if e != api.OK {
		return api.Span{}, e
	}
	return all.ends(sale.paid).span(), api.OK
}

// truth is what an animal truly is.
type truth struct {
	grams      int
	soft, weak bool
}

// truths hands out all that an animal may truly be.
func truths(x api.Scaled) iter.Seq[truth] {
	return func(yield func(truth) bool) {
		soft := x.Animal.Shell == api.ShellSoft
		for grams := x.Grams.Lo; grams <= x.Grams.Hi; grams++ {
			if x.Weak != api.Never && !yield(truth{grams, soft, true}) {
				return
			}
			if x.Weak != api.Sure && !yield(truth{grams, soft, false}) {
				return
			}
		}
	}
}

func takes(g api.Grade, t truth) bool {
	return within(t.grams, g.Low, g.High) && (g.Soft || !t.soft) && (g.Weak || !t.weak)
}

// sale is what becomes of an animal that truly is something: its grade (the number behind the last one, if it is refused), its weight, and what is paid for it.
type sale struct{ grade, grams, cents int }

func (s sale) animals() int { return 1 }

func (s sale) weight() int { return s.grams }

func (s sale) paid() int { return s.cents }

// kilogram is in grams.
const kilogram = 1000

// sell returns what becomes of what an animal truly is.
func sell(m []api.Grade, t truth) sale {
	for i, g := range m {
		if takes(g, t) {
			return sale{i, t.grams, t.grams * g.Price / kilogram}
		}
	}
	return sale{grade: len(m), grams: t.grams}
}

// sales are what may become of one animal, whatever it truly is.
type sales []sale

// salesOf returns the first error of the market and the animal, otherwise what may become of it.
func salesOf(m []api.Grade, x api.Scaled) (sales, api.Errno) {
	if e := Check(m); e != api.OK {
		return nil, e
	}
	if e := CheckScaled(x); e != api.OK {
		return nil, e
	}
	var all sales
	for t := range truths(x) {
		all = append(all, sell(m, t))
	}
	return all, api.OK
}

// verdict says whether the animal is of a grade.
func (all sales) verdict(grade int) int {
	switch all.endsIn(grade, sale.animals) {
	case ends{1, 1}:
		return api.Sure
	case ends{0, 0}:
		return api.Never
	}
	return api.Open
}

// endsIn returns the least and the greatest of what a number adds to a grade: nothing where the animal is of another one.
func (all sales) endsIn(grade int, number func(sale) int) ends {
	return all.ends(func(s sale) int {
		if s.grade != grade {
			return 0
		}
		return number(s)
	})
}

// ends returns the least and the greatest of what a number is, which is never below 0.
func (all sales) ends(number func(sale) int) ends {
	found := ends{math.MaxInt, 0}
	for _, s := range all {
		n := number(s)
		found = ends{min(found[0], n), max(found[1], n)}
	}
	return found
}

// ends are the least and the greatest number that something may truly be.
type ends [2]int

func (a ends) span() api.Span { return api.Span{Lo: a[0], Hi: a[1]} }
