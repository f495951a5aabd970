package trade_test

import (
	"slices"
	"testing"

	"homarus/api"
	"homarus/trade"
)

// slipResult is what Slip returns.
type slipResult struct {
	lines          []api.Line
	refused, cents api.Span
}

func (a slipResult) equals(b slipResult) bool {
	return slices.Equal(a.lines, b.lines) && a.refused == b.refused && a.cents == b.cents
}

// anySize is a gauge by which each animal without eggs and without a notch may be kept.
func anySize() api.Gauge { return api.Gauge{High: 2500, Eggs: true, Notch: true} }

// P8.2: the chapter's example, slips of one animal, of none, and of as many as there may be.
func TestSlip(t *testing.T) {
	line := func(count, grams, cents api.Span) api.Line { return api.Line{Count: count, Grams: grams, Cents: cents} }
	example := slipResult{[]api.Line{line(span(0, 2), span(0, 1050), span(0, 1050)), line(span(0, 1), span(0, 553), span(0, 884)), line(span(1, 2), span(600, 1100), span(420, 770))}, one(0), span(1318, 1804)}
	heavy := scaled(api.ShellHard, span(900, 902), n)
	for name, c := range map[string]struct {
		l    []api.Scaled
		want slipResult
	}{
		"A B C":   {[]api.Scaled{animalA(), animalB(), animalC()}, example},
		"C B A":   {[]api.Scaled{animalC(), animalB(), animalA()}, example},
		"nothing": {nil, slipResult{make([]api.Line, 3), one(0), one(0)}},
		"A":       {[]api.Scaled{animalA()}, slipResult{[]api.Line{line(span(0, 1), span(0, 550), span(0, 550)), line(span(0, 1), span(0, 553), span(0, 884)), {}}, one(0), span(548, 884)}},
		"a chick": {[]api.Scaled{scaled(api.ShellHard, span(450, 500), n)}, slipResult{[]api.Line{line(one(1), span(450, 500), span(450, 500)), {}, {}}, one(0), span(450, 500)}},
		"heavy":   {[]api.Scaled{heavy, heavy}, slipResult{[]api.Line{{}, line(span(0, 2), span(0, 1800), span(0, 2880)), {}}, span(0, 2), span(0, 2880)}},
		"refused": {[]api.Scaled{scaled(api.ShellHard, one(950), n), heavy}, slipResult{[]api.Line{{}, line(span(0, 1), span(0, 900), span(0, 1440)), {}}, span(1, 2), span(0, 1440)}},
		// Cents are rounded down for each animal: 7 tenths of 449 are 314.3.
		"60":          {slices.Repeat([]api.Scaled{scaled(api.ShellHard, span(449, 450), y)}, 60), slipResult{[]api.Line{{}, {}, line(one(60), span(26940, 27000), span(18840, 18900))}, one(0), span(18840, 18900)}},
		"60 of A":     {slices.Repeat([]api.Scaled{animalA()}, 60), slipResult{[]api.Line{line(span(0, 60), span(0, 33000), span(0, 33000)), line(span(0, 60), span(0, 33180), span(0, 53040)), {}}, one(0), span(32880, 53040)}},
		"a female":    {[]api.Scaled{changedA(func(x *api.Scaled) { x.Animal.Size, x.Grams = span(0, 2500), one(500) })}, slipResult{[]api.Line{line(one(1), one(500), one(500)), {}, {}}, one(0), one(500)}},
		"all refused": {[]api.Scaled{scaled(api.ShellOld, one(901), o)}, slipResult{make([]api.Line, 3), one(1), one(0)}},
	} {
		lines, refused, cents, e := trade.Slip(exampleMarket(), anySize(), c.l)
		if got := (slipResult{lines, refused, cents}); !got.equals(c.want) || e != api.OK {
			t.Errorf("%s: Slip returns %v %d, not %v", name, got, e, c.want)
		}
	}
}

// P8.2, P8.9: the errors of a slip, in their order; what may have to go back is on none.
func TestSlipErrors(t *testing.T) {
	from := func(low int) api.Gauge { return api.Gauge{Low: low, High: 1000, Eggs: true, Notch: true} }
	wrong := changedA(func(x *api.Scaled) { x.Weak = 0 })
	with := func(change func(x *api.Scaled)) []api.Scaled { return []api.Scaled{animalB(), changedA(change)} }
	strict := api.Gauge{High: 2500, Soft: true}
	many := func(many int, x api.Scaled) []api.Scaled { return slices.Repeat([]api.Scaled{x}, many) }
	for name, c := range map[string]struct {
		g    api.Gauge
		l    []api.Scaled
		want api.Errno
	}{
		"from 800":               {from(800), []api.Scaled{animalA(), animalB(), animalC()}, api.OK},
		"from 900":               {from(900), many(1, animalA()), api.OK},
		"from 901":               {from(901), []api.Scaled{animalA(), animalB(), animalC()}, api.ErrClash},
		"to 900":                 {api.Gauge{High: 900}, many(1, animalA()), api.OK},
		"to 899":                 {api.Gauge{High: 899}, many(1, animalA()), api.ErrClash},
		"gauge backwards":        {from(1001), nil, api.ErrOrder},
		"gauge -1":               {from(-1), nil, api.ErrRange},
		"gauge before many":      {from(1001), many(61, wrong), api.ErrOrder},
		"gauge before an animal": {api.Gauge{High: 2501}, many(1, wrong), api.ErrRange},
		"60":                     {from(800), many(60, animalA()), api.OK},
		"61":                     {from(800), many(61, animalA()), api.ErrFull},
		"61, all wrong":          {from(800), many(61, wrong), api.ErrFull},
		"61 that go back":        {from(901), many(61, animalA()), api.ErrFull},
		"wrong":                  {from(800), many(1, wrong), api.ErrKind},
		"wrong and goes back":    {from(901), many(1, wrong), api.ErrKind},
		"goes back, then wrong":  {from(901), []api.Scaled{animalA(), wrong}, api.ErrClash},
		"wrong, then goes back":  {from(800), []api.Scaled{wrong, changedA(func(x *api.Scaled) { x.Animal.Size = one(700) })}, api.ErrKind},
		"perhaps too small":      {from(800), with(func(x *api.Scaled) { x.Animal.Size = span(799, 900) }), api.ErrClash},
		"perhaps too large":      {from(800), with(func(x *api.Scaled) { x.Animal.Size = span(900, 1001) }), api.ErrClash},
		"just as large":          {from(800), with(func(x *api.Scaled) { x.Animal.Size = span(800, 1000) }), api.OK},
		"with eggs":              {from(800), with(func(x *api.Scaled) { x.Animal.Eggs = y }), api.ErrClash},
		"perhaps with eggs":      {from(800), with(func(x *api.Scaled) { x.Animal.Eggs = o }), api.ErrClash},
		"eggs do not matter":     {api.Gauge{High: 2500, Notch: true}, with(func(x *api.Scaled) { x.Animal.Eggs = y }), api.OK},
		"perhaps with a notch":   {from(800), with(func(x *api.Scaled) { x.Animal.Notch = o }), api.ErrClash},
		"notch does not matter":  {api.Gauge{High: 2500}, with(func(x *api.Scaled) { x.Animal.Notch = o }), api.OK},
		"soft":                   {strict, many(1, animalB()), api.ErrClash},
		"soft does not matter":   {anySize(), many(1, animalB()), api.OK},
		"not soft":               {strict, many(1, animalA()), api.OK},
		"the last one of 60":     {from(800), append(many(59, animalA()), wrong), api.ErrKind},
		// It does not matter that nobody would buy it.
		"refused and goes back": {from(800), with(func(x *api.Scaled) { x.Animal.Size, x.Grams = one(700), one(1) }), api.ErrClash},
	} {
		lines, refused, cents, e := trade.Slip(exampleMarket(), c.g, c.l)
		if e != c.want {
			t.Errorf("%s: Slip returns %d, not %d", name, e, c.want)
		}
		if e != api.OK && (len(lines) > 0 || refused != api.Span{} || cents != api.Span{}) {
			t.Errorf("%s: Slip returns %v %v %v with an error", name, lines, refused, cents)
		}
	}
}
