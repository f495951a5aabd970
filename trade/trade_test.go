package trade_test

import (
	"math"
	"slices"
	"strings"
	"testing"

	"homarus/api"
	"homarus/trade"
)

// The verdicts, as short as in the chapter's tables.
const (
	y = api.Sure
	n = api.Never
	o = api.Open
)

func span(low, high int) api.Span { return api.Span{Lo: low, Hi: high} }

func one(n int) api.Span { return span(n, n) }

// exampleMarket is the market M of the chapter's examples.
func exampleMarket() []api.Grade {
	return []api.Grade{
		{Name: "chick", Low: 450, High: 550, Price: 1000},
		{Name: "select", Low: 551, High: 900, Price: 1600},
		{Name: "cull", Low: 400, High: 900, Soft: true, Weak: true, Price: 700},
	}
}

// changedMarket returns the market M with a change.
func changedMarket(change func(m []api.Grade)) []api.Grade {
	m := exampleMarket()
	change(m)
	return m
}

// manyGrades returns a market of so many grades.
func manyGrades(many int) []api.Grade {
	var m []api.Grade
	for i := range many {
		m = append(m, api.Grade{Name: strings.Repeat("z", i%8) + string(rune('a'+i)), Low: 1, High: 20000})
	}
	return m
}

// scaled returns an animal of the size 900, male if its shell is soft, otherwise female.
func scaled(shell int, grams api.Span, weak int) api.Scaled {
	sex := api.Female
	if shell == api.ShellSoft {
		sex = api.Male
	}
	return api.Scaled{Animal: api.Caught{Size: one(900), Sex: sex, Eggs: n, Notch: n, Shell: shell}, Grams: grams, Weak: weak}
}

// The animals A, B and C of the chapter's examples.
func animalA() api.Scaled { return scaled(api.ShellHard, span(548, 553), n) }

func animalB() api.Scaled { return scaled(api.ShellSoft, one(600), n) }

func animalC() api.Scaled {
	x := scaled(api.ShellHard, one(500), o)
	x.Animal.Sex = api.Male
	return x
}

// changedA returns the animal A with a change.
func changedA(change func(x *api.Scaled)) api.Scaled {
	x := animalA()
	change(&x)
	return x
}

// marketError is a market, and the first error that it has.
type marketError struct {
	m    []api.Grade
	want api.Errno
}

// nameErrors are about how many grades there are, and about their names.
func nameErrors() map[string]marketError {
	errors := map[string]marketError{
		"M":                            {exampleMarket(), api.OK},
		"no grade":                     {nil, api.ErrShort},
		"an empty list":                {[]api.Grade{}, api.ErrShort},
		"one grade":                    {manyGrades(1), api.OK},
		"8 grades":                     {manyGrades(8), api.OK},
		"9 grades":                     {manyGrades(9), api.ErrFull},
		"9 grades, all wrong":          {make([]api.Grade, 9), api.ErrFull},
		"the same names":               {changedMarket(func(m []api.Grade) { m[2].Name = "chick" }), api.ErrExists},
		"select as the name of all":    {changedMarket(func(m []api.Grade) { m[0].Name, m[2].Name = "select", "select" }), api.ErrExists},
		"names of neighbours":          {changedMarket(func(m []api.Grade) { m[2].Name = "select" }), api.ErrExists},
		"exists before range":          {changedMarket(func(m []api.Grade) { m[2].Name, m[2].Low = "chick", 0 }), api.ErrExists},
		"form before range":            {changedMarket(func(m []api.Grade) { m[0].Name, m[0].Low = "Chick", 0 }), api.ErrForm},
		"exists before the next form":  {changedMarket(func(m []api.Grade) { m[1].Name, m[2].Name = "chick", "" }), api.ErrExists},
		"range before the next exists": {changedMarket(func(m []api.Grade) { m[1].Low, m[2].Name = 0, "chick" }), api.ErrRange},
		"order before the next form":   {changedMarket(func(m []api.Grade) { m[0].Low, m[1].Name = 551, "" }), api.ErrOrder},
		"the last grade":               {changedMarket(func(m []api.Grade) { m[2].Low = 901 }), api.ErrOrder},
	}
	for _, name := range []string{"a", "z", "az", "chicks", "abcdefgh", "zzzzzzzz"} {
		errors["named "+name] = marketError{changedMarket(func(m []api.Grade) { m[0].Name = name }), api.OK}
	}
	for _, name := range []string{"", "abcdefghi", "Chick", "chicK", "chick1", "ch ck", " chick", "chick ", "ch-ck", "chick\n", "`", "{", "@", "Z", "é", "a\x00", "\xff", strings.Repeat("a", 1000)} {
		errors["named "+name] = marketError{changedMarket(func(m []api.Grade) { m[0].Name = name }), api.ErrForm}
	}
	return errors
}

// numberErrors are about the numbers of a grade.
func numberErrors() map[string]marketError {
	errors := map[string]marketError{}
	add := func(name string, low, high, price int, want api.Errno) {
		errors[name] = marketError{changedMarket(func(m []api.Grade) { m[1].Low, m[1].High, m[1].Price = low, high, price }), want}
	}
	add("the whole span", 1, 20000, 100000, api.OK)
	add("the least numbers", 1, 1, 0, api.OK)
	add("the greatest numbers", 20000, 20000, 100000, api.OK)
	add("Low 0", 0, 900, 5, api.ErrRange)
	add("Low 20001", 20001, 900, 5, api.ErrRange)
	add("Low least of all", math.MinInt, 900, 5, api.ErrRange)
	add("High 0", 5, 0, 5, api.ErrRange)
	add("High 20001", 5, 20001, 5, api.ErrRange)
	add("High greatest of all", 5, math.MaxInt, 5, api.ErrRange)
	add("Price -1", 5, 900, -1, api.ErrRange)
	add("Price 100001", 5, 900, 100001, api.ErrRange)
	add("Low above High", 901, 900, 5, api.ErrOrder)
	add("Low above High, most", 20000, 1, 5, api.ErrOrder)
	add("range before order", 901, 900, 100001, api.ErrRange)
	return errors
}

// P8.1 to P8.4, P8.6: Check names the first error of a market; all functions of a market name it, too, before all others.
func TestCheck(t *testing.T) {
	for _, errors := range []map[string]marketError{nameErrors(), numberErrors()} {
		for name, c := range errors {
			if e := trade.Check(c.m); e != c.want {
				t.Errorf("%s: Check returns %d, not %d", name, e, c.want)
			}
			if c.want == api.OK {
				continue
			}
			_, _, grades := trade.Grades(c.m, api.Scaled{})
			_, pay := trade.Pay(c.m, api.Scaled{})
			_, _, _, slip := trade.Slip(c.m, api.Gauge{Low: 2, High: 1}, make([]api.Scaled, 61))
			_, book := trade.Book(c.m, make([]api.Event, 201))
			_, _, ship := trade.Ship(c.m, make([]api.Event, 201), make([]api.Order, 11), -1)
			_, write := trade.Write(c.m, make([]api.Event, 201))
			_, row, read := trade.Read(c.m, strings.Repeat("x", 8001))
			if list := []api.Errno{grades, pay, slip, book, ship, write, read}; row != 0 || !slices.Equal(list, slices.Repeat([]api.Errno{c.want}, 7)) {
				t.Errorf("%s: the calls return %v, row %d, not %d", name, list, row, c.want)
			}
		}
	}
}

// scaledErrors are changes of the animal A, and the first error that it has then.
func scaledErrors() map[string]struct {
	x    api.Scaled
	want api.Errno
} {
	type scaledError = struct {
		x    api.Scaled
		want api.Errno
	}
	errors := map[string]scaledError{
		"A":                       {animalA(), api.OK},
		"B":                       {animalB(), api.OK},
		"C":                       {animalC(), api.OK},
		"nothing":                 {api.Scaled{}, api.ErrKind},
		"size":                    {changedA(func(x *api.Scaled) { x.Animal.Size = one(2501) }), api.ErrRange},
		"size backwards":          {changedA(func(x *api.Scaled) { x.Animal.Size = span(2, 1) }), api.ErrOrder},
		"size before grams":       {changedA(func(x *api.Scaled) { x.Animal.Size, x.Grams = span(2, 1), one(0) }), api.ErrOrder},
		"sex before grams":        {changedA(func(x *api.Scaled) { x.Animal.Sex, x.Grams = 3, one(0) }), api.ErrKind},
		"a male with eggs":        {changedA(func(x *api.Scaled) { x.Animal.Sex, x.Animal.Eggs = api.Male, y }), api.ErrClash},
		"shell before grams":      {changedA(func(x *api.Scaled) { x.Animal.Shell, x.Grams = 0, span(2, 1) }), api.ErrKind},
		"shell":                   {changedA(func(x *api.Scaled) { x.Animal.Shell = 4 }), api.ErrKind},
		"grams before weak":       {changedA(func(x *api.Scaled) { x.Grams, x.Weak = one(0), 0 }), api.ErrRange},
		"backwards before weak":   {changedA(func(x *api.Scaled) { x.Grams, x.Weak = span(2, 1), 0 }), api.ErrOrder},
		"unsure before weak":      {changedA(func(x *api.Scaled) { x.Grams, x.Weak = span(1, 202), 0 }), api.ErrRange},
		"weak 0":                  {changedA(func(x *api.Scaled) { x.Weak = 0 }), api.ErrKind},
		"weak 4":                  {changedA(func(x *api.Scaled) { x.Weak = 4 }), api.ErrKind},
		"weak -1":                 {changedA(func(x *api.Scaled) { x.Weak = -1 }), api.ErrKind},
		"an animal with an error": {changedA(func(x *api.Scaled) { x.Animal.Eggs, x.Weak = 0, 1 }), api.ErrKind},
	}
	add := func(name string, grams api.Span, want api.Errno) {
		errors[name] = scaledError{changedA(func(x *api.Scaled) { x.Grams = grams }), want}
	}
	add("1 gram", one(1), api.OK)
	add("20000 grams", one(20000), api.OK)
	add("200 grams unsure", span(1, 201), api.OK)
	add("200 grams unsure, heavy", span(19800, 20000), api.OK)
	add("201 grams unsure", span(1, 202), api.ErrRange)
	add("all unsure", span(1, 20000), api.ErrRange)
	add("0 grams", span(0, 5), api.ErrRange)
	add("20001 grams", span(19999, 20001), api.ErrRange)
	add("backwards", span(501, 500), api.ErrOrder)
	add("backwards by far", span(20000, 1), api.ErrOrder)
	add("backwards to 0", span(5, 0), api.ErrRange)
	add("backwards from 20001", span(20001, 5), api.ErrRange)
	add("anything", span(math.MinInt, math.MaxInt), api.ErrRange)
	return errors
}

// P8.1, P8.2: CheckScaled names the first error of an animal; Grades, Pay and Slip name it, too.
func TestCheckScaled(t *testing.T) {
	for name, c := range scaledErrors() {
		if e := trade.CheckScaled(c.x); e != c.want {
			t.Errorf("%s: CheckScaled returns %d, not %d", name, e, c.want)
		}
		_, _, grades := trade.Grades(exampleMarket(), c.x)
		_, pay := trade.Pay(exampleMarket(), c.x)
		_, _, _, slip := trade.Slip(exampleMarket(), api.Gauge{High: 2500}, []api.Scaled{animalA(), c.x})
		if list := []api.Errno{grades, pay, slip}; !slices.Equal(list, slices.Repeat([]api.Errno{c.want}, 3)) {
			t.Errorf("%s: Grades, Pay and Slip return %v, not %d", name, list, c.want)
		}
	}
}
