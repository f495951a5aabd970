package stock_test

import (
	"math/rand"
	"slices"
	"strings"

	"homarus/api"
)

// random makes values; it begins with the same number each time.
type random struct{ *rand.Rand }

func newRandom() random { return random{rand.New(rand.NewSource(1))} }

func (r random) in(low, high int) int { return low + r.Intn(high-low+1) }

func (r random) span(low, high int) api.Span {
	a, b := r.in(low, high), r.in(low, high)
	return span(min(a, b), max(a, b))
}

func (r random) yes() bool { return r.Intn(2) == 0 }

// moves returns a year of so many classes in which none dies or settles.
func (r random) moves(classes int) api.Year {
	var y api.Year
	for c := range classes {
		move := r.span(c, classes-1)
		switch r.Intn(3) {
		case 0:
			move = one(c)
		case 1:
			move = span(c, min(c+1, classes-1))
		}
		y.Low, y.Top = append(y.Low, move.Lo), append(y.Top, move.Hi)
	}
	return y
}

// classes returns some classes of so many, from one to another one.
func (r random) classes(classes int) (from, to int) {
	s := r.span(0, classes-1)
	return s.Lo, s.Hi
}

// sign returns a sign of a stock with numbers up to few.
func (r random) sign(s api.Stock, few int) api.Sign {
	year := r.in(0, len(s.Years))
	from, to := r.classes(s.Classes)
	switch r.in(count, survey) {
	case tags:
		return tagged(year, from, to, r.in(0, few))
	case survey:
		part := r.part()
		return surveyed(year, from, to, r.in(0, few), part.Lo, part.Hi)
	}
	n := r.span(0, few)
	return counted(year, from, to, n.Lo, n.Hi)
}

// part returns a part, often one whose ends are easy to reach.
func (r random) part() api.Span {
	few := []int{0, 1, 250000, 333333, 500000, 750000, 999999, api.Mil}
	if r.Intn(4) == 0 {
		return r.span(0, api.Mil)
	}
	a, b := few[r.Intn(len(few))], few[r.Intn(len(few))]
	return span(min(a, b), max(a, b))
}

// stock returns a stock of up to so many classes, years and signs, with numbers up to few. Its set may be empty.
func (r random) stock(classes, years, signs, few int) api.Stock {
	s := api.Stock{Classes: r.in(1, classes)}
	for range r.in(0, years) {
		y := r.moves(s.Classes)
		y.Dead, y.Young = r.span(0, few), r.span(0, few)
		s.Years = append(s.Years, y)
	}
	for range r.in(0, signs) {
		s.Signs = append(s.Signs, r.sign(s, few))
	}
	return s
}

// around returns a span that has n, by no more than far away from it.
func (r random) around(n, far int) api.Span {
	return span(r.in(max(n-far, 0), n), r.in(n, min(n+far, most)))
}

// trueStock returns a stock without signs, and its history as it truly is: of so many animals at first, by classes, some die, the others are in one of the classes in which they may be, and some settle.
func (r random) trueStock(classes, years, animals int) (api.Stock, [][]int) {
	s := api.Stock{Classes: r.in(1, classes)}
	row := make([]int, s.Classes)
	for c := range row {
		row[c] = r.in(0, animals)
	}
	history := [][]int{row}
	for range r.in(0, years) {
		y := r.moves(s.Classes)
		next := make([]int, s.Classes)
		dead, young := 0, r.in(0, animals)
		for c, n := range row {
			deaths := 0
			if r.yes() {
				deaths = r.in(0, n)
			}
			dead += deaths
			for left := n - deaths; left > 0; {
				some := r.in(1, left)
				next[r.in(y.Low[c], y.Top[c])] += some
				left -= some
			}
		}
		next[0] += young
		y.Dead, y.Young = r.around(dead, animals/4), r.around(young, animals/4)
		s.Years, history, row = append(s.Years, y), append(history, next), next
	}
	return s, history
}

// trueSign returns a sign that was truly seen of a history.
func (r random) trueSign(s api.Stock, history [][]int) api.Sign {
	sign := r.sign(s, 1)
	n := numberIn(history, sign.Year, sign.From, sign.To)
	switch sign.Kind {
	case count:
		sign.Number = r.around(n, 1+n/4)
	case tags:
		sign.Number = one(r.in(0, n))
	case survey:
		// Of each animal that was seen, the part is known no better than by the span.
		part := r.in(sign.Part.Lo, sign.Part.Hi)
		seen := n * part / api.Mil
		if n*part%api.Mil > 0 && r.yes() {
			seen++
		}
		sign.Number = one(seen)
	}
	return sign
}

// rule returns a rule for a stock, with numbers up to few.
func (r random) rule(s api.Stock, few int) api.Rule {
	x := api.Rule{Class: r.in(0, s.Classes-1), Point: r.in(0, few), Part: r.part().Hi, Cap: r.in(0, few), Live: r.part()}
	if r.yes() {
		x.Live = span(r.in(500000, api.Mil), api.Mil)
	}
	return x
}

// changedText returns a text in which one byte is another one, is missing, or stands twice; or one row; or one word is another one.
func (r random) changedText(text string) string {
	i := r.Intn(len(text))
	switch r.Intn(8) {
	case 0:
		return text[:i] + text[i+1:]
	case 1:
		return text[:i] + text[i:i+1] + text[i:]
	case 2, 3:
		rows := strings.SplitAfter(text, "\n")
		i, j := r.Intn(len(rows)), r.Intn(len(rows))
		row := rows[i]
		if r.Intn(3) > 0 {
			rows = slices.Delete(rows, i, i+1)
		}
		if r.Intn(3) > 0 {
			rows = slices.Insert(rows, min(j, len(rows)), row)
		}
		return strings.Join(rows, "")
	case 4, 5, 6:
		words := strings.Split(text, " ")
		few := []string{"0", "1", "2", "3", "4", "5", "10", "70", "1000000", "1000001", "1000000001", "9999999999", "10000000000", "00", "-1"}
		j := r.Intn(len(words))
		if !strings.Contains(words[j], "\n") {
			words[j] = few[r.Intn(len(few))]
		}
		return strings.Join(words, " ")
	}
	const bytes = "0123456789- \nstockyearignd"
	return text[:i] + bytes[r.Intn(len(bytes)):][:1] + text[i+1:]
}
