package trade_test

import (
	"slices"
	"testing"

	"homarus/api"
	"homarus/trade"
)

// saleWanted is an animal on a scale, and what Grades and Pay say of it.
type saleWanted struct {
	x       api.Scaled
	grades  []int
	refused int
	pay     api.Span
}

// checkSales holds what Grades and Pay say against what is wanted.
func checkSales(t *testing.T, m []api.Grade, list map[string]saleWanted) {
	t.Helper()
	for name, c := range list {
		grades, refused, e := trade.Grades(m, c.x)
		if !slices.Equal(grades, c.grades) || refused != c.refused || e != api.OK {
			t.Errorf("%s: Grades returns %v, %d, %d, not %v, %d", name, grades, refused, e, c.grades, c.refused)
		}
		if pay, e := trade.Pay(m, c.x); pay != c.pay || e != api.OK {
			t.Errorf("%s: Pay returns %v %d, not %v", name, pay, e, c.pay)
		}
	}
}

// P8.1: the chapter's examples, and what is just within, and just beyond, the weights of a grade.
func TestGradesAndPay(t *testing.T) {
	hard := func(low, high, weak int) api.Scaled { return scaled(api.ShellHard, span(low, high), weak) }
	soft := func(low, high, weak int) api.Scaled { return scaled(api.ShellSoft, span(low, high), weak) }
	old := func(low, high, weak int) api.Scaled { return scaled(api.ShellOld, span(low, high), weak) }
	checkSales(t, exampleMarket(), map[string]saleWanted{
		"A":                         {animalA(), []int{o, o, n}, n, span(548, 884)},
		"B":                         {animalB(), []int{n, n, y}, n, one(420)},
		"C":                         {animalC(), []int{o, n, o}, n, span(350, 500)},
		"a chick":                   {hard(450, 550, n), []int{y, n, n}, n, span(450, 550)},
		"perhaps too light":         {hard(449, 450, n), []int{o, n, o}, n, span(314, 450)},
		"too light for a chick":     {hard(400, 449, n), []int{n, n, y}, n, span(280, 314)},
		"perhaps refused":           {hard(399, 400, n), []int{n, n, o}, o, span(0, 280)},
		"too light":                 {hard(399, 399, n), []int{n, n, n}, y, one(0)},
		"lightest":                  {hard(1, 1, n), []int{n, n, n}, y, one(0)},
		"a select":                  {hard(551, 751, n), []int{n, y, n}, n, span(881, 1201)},
		"too heavy":                 {hard(901, 1000, n), []int{n, n, n}, y, one(0)},
		"perhaps too heavy":         {hard(900, 901, n), []int{n, o, n}, o, span(0, 1440)},
		"all but refused":           {hard(440, 600, n), []int{o, o, o}, n, span(308, 960)},
		"heaviest":                  {hard(20000, 20000, y), []int{n, n, n}, y, one(0)},
		"weak":                      {hard(500, 500, y), []int{n, n, y}, n, one(350)},
		"weak, perhaps too heavy":   {hard(899, 902, y), []int{n, n, o}, o, span(0, 630)},
		"perhaps weak, light":       {hard(449, 449, o), []int{n, n, y}, n, one(314)},
		"perhaps weak, unsure":      {hard(550, 551, o), []int{o, o, o}, n, span(385, 881)},
		"perhaps weak, too heavy":   {hard(950, 950, o), []int{n, n, n}, y, one(0)},
		"soft":                      {soft(450, 550, n), []int{n, n, y}, n, span(315, 385)},
		"soft and weak":             {soft(450, 550, y), []int{n, n, y}, n, span(315, 385)},
		"soft and perhaps weak":     {soft(450, 450, o), []int{n, n, y}, n, one(315)},
		"soft and too light":        {soft(399, 399, n), []int{n, n, n}, y, one(0)},
		"an old shell":              {old(500, 500, n), []int{y, n, n}, n, one(500)},
		"rounded down, just below":  {hard(559, 559, n), []int{n, y, n}, n, one(894)},
		"rounded down, a whole one": {hard(560, 560, n), []int{n, y, n}, n, one(896)},
	})
}

// P8.1: the grade is the first one that takes an animal, whatever is paid; soft and weak ones need both to be taken.
func TestFirstGrade(t *testing.T) {
	grade := func(name string, low, high, price int, soft, weak bool) api.Grade {
		return api.Grade{Name: name, Low: low, High: high, Price: price, Soft: soft, Weak: weak}
	}
	few := []api.Grade{grade("a", 5, 10, 1000, false, false), grade("b", 1, 20, 3000, false, true), grade("c", 1, 20, 2000, true, false), grade("d", 1, 10, 100000, true, true)}
	checkSales(t, few, map[string]saleWanted{
		"first of all":            {scaled(api.ShellHard, span(5, 10), n), []int{y, n, n, n}, n, span(5, 10)},
		"the second one":          {scaled(api.ShellHard, span(11, 20), n), []int{n, y, n, n}, n, span(33, 60)},
		"on both sides":           {scaled(api.ShellHard, span(4, 11), n), []int{o, o, n, n}, n, span(5, 33)},
		"weak":                    {scaled(api.ShellHard, one(7), y), []int{n, y, n, n}, n, one(21)},
		"perhaps weak":            {scaled(api.ShellHard, one(7), o), []int{o, o, n, n}, n, span(7, 21)},
		"soft":                    {scaled(api.ShellSoft, one(7), n), []int{n, n, y, n}, n, one(14)},
		"soft and weak":           {scaled(api.ShellSoft, one(7), y), []int{n, n, n, y}, n, one(700)},
		"soft and perhaps weak":   {scaled(api.ShellSoft, one(7), o), []int{n, n, o, o}, n, span(14, 700)},
		"or refused, if weak":     {scaled(api.ShellSoft, one(11), o), []int{n, n, o, n}, o, span(0, 22)},
		"or refused, if weighing": {scaled(api.ShellSoft, span(10, 12), o), []int{n, n, o, o}, o, span(0, 1000)},
	})
	dear := []api.Grade{grade("a", 1, 20000, 100000, false, false)}
	if pay, e := trade.Pay(dear, scaled(api.ShellHard, span(19999, 20000), n)); pay != span(1999900, 2000000) || e != api.OK {
		t.Errorf("Pay returns %v %d", pay, e)
	}
	// Free animals are sold, not refused.
	free := []api.Grade{grade("a", 1, 20000, 0, true, true)}
	if grades, refused, e := trade.Grades(free, animalC()); !slices.Equal(grades, []int{y}) || refused != n || e != api.OK {
		t.Errorf("Grades returns %v %d %d", grades, refused, e)
	}
}
