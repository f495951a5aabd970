package tank_test

import (
	"slices"
	"testing"

	"homarus/api"
	"homarus/tank"
)

func span(low, high int) api.Span { return api.Span{Lo: low, Hi: high} }

func one(n int) api.Span { return span(n, n) }

// examplePlant is the plant P of the chapter's examples.
func examplePlant() api.Plant {
	return api.Plant{
		Tanks: []api.Tank{{Litres: 1000, Grams: 10000, Water: api.Water{Oxygen: one(900), Ammonia: one(0), Warm: one(60)}}},
		Pumps: []api.Pump{{Tank: 0, Flow: 500}, {Tank: 0, Flow: 250}},
		Sea:   api.Water{Oxygen: one(1000), Ammonia: one(0), Warm: span(50, 70)},
		Use:   span(5000, 6000),
		Waste: one(100),
		Least: 800,
		Most:  50,
		Warm:  span(40, 90),
	}
}

// changedPlant returns the plant P with a change.
func changedPlant(change func(p *api.Plant)) api.Plant {
	p := examplePlant()
	change(&p)
	return p
}

// widePlant has two tanks, and spans of more than one number everywhere.
func widePlant() api.Plant {
	return changedPlant(func(p *api.Plant) {
		p.Tanks = append(p.Tanks, api.Tank{Litres: 300, Grams: 2000, Water: api.Water{Oxygen: span(880, 920), Ammonia: span(1, 4), Warm: span(55, 65)}})
		p.Pumps = append(p.Pumps, api.Pump{Tank: 1, Flow: 100})
		p.Air, p.Gain = span(1, 3), span(-2, 1)
	})
}

// plantError is a change of the plant P, and the first error that it has then.
type plantError struct {
	change func(p *api.Plant)
	want   api.Errno
}

// tankErrors are about tanks and pumps.
func tankErrors() map[string]plantError {
	many := func(n int) []api.Tank { return slices.Repeat(examplePlant().Tanks, n) }
	pumps := func(flows ...int) []api.Pump {
		var list []api.Pump
		for _, flow := range flows {
			list = append(list, api.Pump{Flow: flow})
		}
		return list
	}
	return map[string]plantError{
		"P":                             {func(p *api.Plant) {}, api.OK},
		"no tank":                       {func(p *api.Plant) { p.Tanks = nil }, api.ErrShort},
		"no tank, 9 pumps":              {func(p *api.Plant) { p.Tanks, p.Pumps = nil, pumps(0, 0, 0, 0, 0, 0, 0, 0, 0) }, api.ErrShort},
		"6 tanks":                       {func(p *api.Plant) { p.Tanks = many(6) }, api.OK},
		"7 tanks":                       {func(p *api.Plant) { p.Tanks = many(7) }, api.ErrFull},
		"7 tanks, the first one wrong":  {func(p *api.Plant) { p.Tanks = many(7); p.Tanks[0].Litres = 0 }, api.ErrFull},
		"0 litres":                      {func(p *api.Plant) { p.Tanks[0].Litres = 0 }, api.ErrRange},
		"1 litre":                       {func(p *api.Plant) { p.Tanks[0].Litres, p.Pumps = 1, pumps(1) }, api.OK},
		"100000 litres":                 {func(p *api.Plant) { p.Tanks[0].Litres = 100000 }, api.OK},
		"100001 litres":                 {func(p *api.Plant) { p.Tanks[0].Litres = 100001 }, api.ErrRange},
		"-1 grams":                      {func(p *api.Plant) { p.Tanks[0].Grams = -1 }, api.ErrRange},
		"0 grams":                       {func(p *api.Plant) { p.Tanks[0].Grams = 0 }, api.OK},
		"10000000 grams":                {func(p *api.Plant) { p.Tanks[0].Grams = 10000000 }, api.OK},
		"10000001 grams":                {func(p *api.Plant) { p.Tanks[0].Grams = 10000001 }, api.ErrRange},
		"grams before water":            {func(p *api.Plant) { p.Tanks[0].Grams, p.Tanks[0].Water.Oxygen = -1, span(2, 1) }, api.ErrRange},
		"litres before water":           {func(p *api.Plant) { p.Tanks[0].Litres, p.Tanks[0].Water.Oxygen = 0, span(2, 1) }, api.ErrRange},
		"water before the next tank":    {func(p *api.Plant) { p.Tanks = many(2); p.Tanks[0].Water.Warm, p.Tanks[1].Litres = span(2, 1), 0 }, api.ErrOrder},
		"the last tank":                 {func(p *api.Plant) { p.Tanks = many(6); p.Tanks[5].Litres = 0 }, api.ErrRange},
		"water before pumps":            {func(p *api.Plant) { p.Tanks[0].Water.Warm, p.Pumps[0].Tank = span(2, 1), 1 }, api.ErrOrder},
		"no pump":                       {func(p *api.Plant) { p.Pumps = nil }, api.OK},
		"8 pumps":                       {func(p *api.Plant) { p.Pumps = pumps(1, 1, 1, 1, 1, 1, 1, 993) }, api.OK},
		"9 pumps":                       {func(p *api.Plant) { p.Pumps = pumps(0, 0, 0, 0, 0, 0, 0, 0, 0) }, api.ErrFull},
		"9 pumps, the first one wrong":  {func(p *api.Plant) { p.Pumps = pumps(-1, 0, 0, 0, 0, 0, 0, 0, 0) }, api.ErrFull},
		"9 pumps, and the sea is wrong": {func(p *api.Plant) { p.Pumps, p.Sea.Warm = make([]api.Pump, 9), span(2, 1) }, api.ErrFull},
		"a pump for the tank -1":        {func(p *api.Plant) { p.Pumps[1].Tank = -1 }, api.ErrMissing},
		"a pump for the tank 1":         {func(p *api.Plant) { p.Pumps[1].Tank = 1 }, api.ErrMissing},
		"a pump for the tank 5 of 6":    {func(p *api.Plant) { p.Tanks, p.Pumps[1].Tank = many(6), 5 }, api.OK},
		"tank before flow":              {func(p *api.Plant) { p.Pumps[0] = api.Pump{Tank: 1, Flow: -1} }, api.ErrMissing},
		"flow -1":                       {func(p *api.Plant) { p.Pumps[0].Flow = -1 }, api.ErrRange},
		"flow 0":                        {func(p *api.Plant) { p.Pumps[0].Flow = 0 }, api.OK},
		"flow 100000":                   {func(p *api.Plant) { p.Tanks[0].Litres, p.Pumps = 100000, pumps(100000) }, api.OK},
		"flow 100000 of 1000 litres":    {func(p *api.Plant) { p.Pumps = pumps(100000) }, api.ErrOver},
		"flow 100001":                   {func(p *api.Plant) { p.Pumps = pumps(100001) }, api.ErrRange},
		"flows are all litres":          {func(p *api.Plant) { p.Pumps = pumps(500, 500) }, api.OK},
		"flows 501 and 500":             {func(p *api.Plant) { p.Pumps = pumps(501, 500) }, api.ErrOver},
		"flows 1001":                    {func(p *api.Plant) { p.Pumps = pumps(1001) }, api.ErrOver},
		"flows 1000 and 1":              {func(p *api.Plant) { p.Pumps = pumps(1000, 1) }, api.ErrOver},
		"flows -1 and 1001":             {func(p *api.Plant) { p.Pumps = pumps(-1, 1001) }, api.ErrRange},
		"flows 1001 and -1":             {func(p *api.Plant) { p.Pumps = pumps(1001, -1) }, api.ErrOver},
		"flows too much before missing": {func(p *api.Plant) { p.Pumps = append(pumps(501, 500), api.Pump{Tank: 1}) }, api.ErrOver},
		"flows of two tanks":            {func(p *api.Plant) { p.Tanks = many(2); p.Pumps = append(pumps(1000), api.Pump{Tank: 1, Flow: 1000}) }, api.OK},
		"flows of the second tank":      {func(p *api.Plant) { p.Tanks = many(2); p.Pumps = append(pumps(1), api.Pump{Tank: 1, Flow: 1001}) }, api.ErrOver},
		"a small second tank":           {func(p *api.Plant) { p.Tanks = many(2); p.Tanks[1].Litres = 9; p.Pumps[1] = api.Pump{Tank: 1, Flow: 10} }, api.ErrOver},
		"flows before the sea":          {func(p *api.Plant) { p.Pumps, p.Sea.Oxygen = pumps(501, 500), one(-1) }, api.ErrOver},
	}
}

// hourErrors are about what happens in each hour, and about the limits.
func hourErrors() map[string]plantError {
	return map[string]plantError{
		"sea before use":               {func(p *api.Plant) { p.Sea.Warm, p.Use = span(2, 1), one(-1) }, api.ErrOrder},
		"use before waste":             {func(p *api.Plant) { p.Use, p.Waste = span(2, 1), one(-1) }, api.ErrOrder},
		"waste before air":             {func(p *api.Plant) { p.Waste, p.Air = span(2, 1), one(-1) }, api.ErrOrder},
		"air before gain":              {func(p *api.Plant) { p.Air, p.Gain = span(2, 1), one(401) }, api.ErrOrder},
		"gain before least":            {func(p *api.Plant) { p.Gain, p.Least = span(2, 1), -1 }, api.ErrOrder},
		"gain before most":             {func(p *api.Plant) { p.Gain, p.Most = span(2, 1), -1 }, api.ErrOrder},
		"use before most":              {func(p *api.Plant) { p.Use, p.Most = span(2, 1), -1 }, api.ErrOrder},
		"least before warmth":          {func(p *api.Plant) { p.Least, p.Warm = -1, span(50, 40) }, api.ErrRange},
		"most before warmth":           {func(p *api.Plant) { p.Most, p.Warm = -1, span(50, 40) }, api.ErrRange},
		"least -1":                     {func(p *api.Plant) { p.Least = -1 }, api.ErrRange},
		"least 0":                      {func(p *api.Plant) { p.Least = 0 }, api.OK},
		"least 100000":                 {func(p *api.Plant) { p.Least = 100000 }, api.OK},
		"least 100001":                 {func(p *api.Plant) { p.Least = 100001 }, api.ErrRange},
		"most -1":                      {func(p *api.Plant) { p.Most = -1 }, api.ErrRange},
		"most 0":                       {func(p *api.Plant) { p.Most = 0 }, api.OK},
		"most 100000, least 100000":    {func(p *api.Plant) { p.Most, p.Least = 100000, 100000 }, api.OK},
		"most 100001":                  {func(p *api.Plant) { p.Most = 100001 }, api.ErrRange},
		"oxygen before ammonia":        {func(p *api.Plant) { p.Sea.Oxygen, p.Sea.Ammonia = span(2, 1), one(-1) }, api.ErrOrder},
		"ammonia before warmth":        {func(p *api.Plant) { p.Sea.Ammonia, p.Sea.Warm = span(2, 1), one(401) }, api.ErrOrder},
		"oxygen of a tank before that": {func(p *api.Plant) { p.Tanks[0].Water.Oxygen, p.Tanks[0].Water.Ammonia = span(2, 1), one(-1) }, api.ErrOrder},
		"ammonia of a tank, too":       {func(p *api.Plant) { p.Tanks[0].Water.Ammonia, p.Tanks[0].Water.Warm = span(2, 1), one(401) }, api.ErrOrder},
	}
}

// checkErrors holds the error of each changed plant against the one that is wanted.
func checkErrors(t *testing.T, errors map[string]plantError) {
	t.Helper()
	for name, c := range errors {
		p := changedPlant(c.change)
		if e := tank.Check(p); e != c.want {
			t.Errorf("%s: Check returns %d, not %d", name, e, c.want)
		}
		if c.want == api.OK {
			continue
		}
		_, run := tank.Run(p, -2, -1, -1)
		_, _, _, holds := tank.Holds(p, -1)
		_, room := tank.Room(p, -1, -1)
		_, honest := tank.Honest(p, -1, []api.Reading{{Hour: -1}})
		for i, e := range []api.Errno{run, holds, room, honest} {
			if e != c.want {
				t.Errorf("%s: call %d returns %d, not %d", name, i, e, c.want)
			}
		}
	}
}

// P7.1: Check names the first error of a plant; Run, Holds, Room and Honest name it, too, before all others.
func TestCheck(t *testing.T) {
	checkErrors(t, tankErrors())
	checkErrors(t, hourErrors())
}

// P7.1: each span has its own bounds, and both of its ends are held against them before each other.
func TestCheckSpans(t *testing.T) {
	for name, c := range map[string]struct {
		of        func(p *api.Plant) *api.Span
		low, high int
	}{
		"oxygen":         {func(p *api.Plant) *api.Span { return &p.Tanks[0].Water.Oxygen }, 0, 100000},
		"ammonia":        {func(p *api.Plant) *api.Span { return &p.Tanks[0].Water.Ammonia }, 0, 100000},
		"warmth":         {func(p *api.Plant) *api.Span { return &p.Tanks[0].Water.Warm }, -50, 400},
		"the sea's":      {func(p *api.Plant) *api.Span { return &p.Sea.Oxygen }, 0, 100000},
		"its ammonia":    {func(p *api.Plant) *api.Span { return &p.Sea.Ammonia }, 0, 100000},
		"its warmth":     {func(p *api.Plant) *api.Span { return &p.Sea.Warm }, -50, 400},
		"use":            {func(p *api.Plant) *api.Span { return &p.Use }, 0, 100000},
		"waste":          {func(p *api.Plant) *api.Span { return &p.Waste }, 0, 100000},
		"air":            {func(p *api.Plant) *api.Span { return &p.Air }, 0, 100000},
		"gain":           {func(p *api.Plant) *api.Span { return &p.Gain }, -400, 400},
		"the limit warm": {func(p *api.Plant) *api.Span { return &p.Warm }, -50, 400},
	} {
		errors := map[string]plantError{}
		add := func(what string, s api.Span, want api.Errno) {
			errors[name+" "+what] = plantError{func(p *api.Plant) { *c.of(p) = s }, want}
		}
		add("whole", span(c.low, c.high), api.OK)
		add("least", one(c.low), api.OK)
		add("most", one(c.high), api.OK)
		add("below", span(c.low-1, c.high), api.ErrRange)
		add("above", span(c.low, c.high+1), api.ErrRange)
		add("all below", one(c.low-1), api.ErrRange)
		add("all above", one(c.high+1), api.ErrRange)
		add("backwards", span(c.low+1, c.low), api.ErrOrder)
		add("backwards from high to low", span(c.high, c.low), api.ErrOrder)
		add("backwards, above", span(c.high+1, c.low), api.ErrRange)
		add("backwards, below", span(c.high, c.low-1), api.ErrRange)
		checkErrors(t, errors)
	}
}
