package growth_test

import (
	"slices"
	"testing"

	"homarus/api"
	"homarus/growth"
)

func span(low, high int) api.Span { return api.Span{Lo: low, Hi: high} }

func one(n int) api.Span { return span(n, n) }

// example is the growth G of the chapter's examples.
func example() api.Growth {
	return api.Growth{Base: 50, Most: 1500, Stages: []api.Stage{
		{From: 0, Need: span(1000, 1200), Step: span(40, 60)},
		{From: 500, Need: span(3000, 3500), Step: span(60, 80)},
	}}
}

// changed returns the growth G with a change.
func changed(change func(g *api.Growth)) api.Growth {
	g := example()
	change(&g)
	return g
}

// P1.1: each error of a growth, at both ends of each bound.
func TestCheckFindsEachError(t *testing.T) {
	for name, c := range map[string]struct {
		change func(g *api.Growth)
		want   api.Errno
	}{
		"as it is":              {func(g *api.Growth) {}, api.OK},
		"least base":            {func(g *api.Growth) { g.Base = -50 }, api.OK},
		"base too low":          {func(g *api.Growth) { g.Base = -51 }, api.ErrRange},
		"greatest base":         {func(g *api.Growth) { g.Base = 400 }, api.OK},
		"base too high":         {func(g *api.Growth) { g.Base = 401 }, api.ErrRange},
		"most 0":                {func(g *api.Growth) { g.Most = 0 }, api.OK},
		"most below 0":          {func(g *api.Growth) { g.Most = -1 }, api.ErrRange},
		"most 2500":             {func(g *api.Growth) { g.Most = 2500 }, api.OK},
		"most 2501":             {func(g *api.Growth) { g.Most = 2501 }, api.ErrRange},
		"no stage":              {func(g *api.Growth) { g.Stages = nil }, api.ErrShort},
		"one stage":             {func(g *api.Growth) { g.Stages = g.Stages[:1] }, api.OK},
		"first from not 0":      {func(g *api.Growth) { g.Stages[0].From = 1 }, api.ErrOrder},
		"first from 500":        {func(g *api.Growth) { g.Stages[0].From = 500 }, api.ErrOrder},
		"first from below 0":    {func(g *api.Growth) { g.Stages[0].From = -1 }, api.ErrRange},
		"from equal":            {func(g *api.Growth) { g.Stages[1].From = 0 }, api.ErrOrder},
		"from 1":                {func(g *api.Growth) { g.Stages[1].From = 1 }, api.OK},
		"from 2500":             {func(g *api.Growth) { g.Stages[1].From = 2500 }, api.OK},
		"from 2501":             {func(g *api.Growth) { g.Stages[1].From = 2501 }, api.ErrRange},
		"from above most":       {func(g *api.Growth) { g.Stages[1].From = 2000 }, api.OK},
		"need from 0":           {func(g *api.Growth) { g.Stages[0].Need = span(0, 5) }, api.ErrRange},
		"need 1":                {func(g *api.Growth) { g.Stages[0].Need = one(1) }, api.OK},
		"need 100000":           {func(g *api.Growth) { g.Stages[0].Need = one(100000) }, api.OK},
		"need 100001":           {func(g *api.Growth) { g.Stages[0].Need = span(1, 100001) }, api.ErrRange},
		"need backwards":        {func(g *api.Growth) { g.Stages[0].Need = span(6, 5) }, api.ErrOrder},
		"need both wrong":       {func(g *api.Growth) { g.Stages[0].Need = span(100001, 5) }, api.ErrRange},
		"step 0":                {func(g *api.Growth) { g.Stages[1].Step = one(0) }, api.OK},
		"step 300":              {func(g *api.Growth) { g.Stages[1].Step = one(300) }, api.OK},
		"step below 0":          {func(g *api.Growth) { g.Stages[1].Step = span(-1, 5) }, api.ErrRange},
		"step 301":              {func(g *api.Growth) { g.Stages[1].Step = span(5, 301) }, api.ErrRange},
		"step backwards":        {func(g *api.Growth) { g.Stages[1].Step = span(60, 40) }, api.ErrOrder},
		"seven stages":          {func(g *api.Growth) { g.Stages = stages(7) }, api.ErrFull},
		"six stages":            {func(g *api.Growth) { g.Stages = stages(6) }, api.OK},
		"error of the 6th":      {func(g *api.Growth) { g.Stages = stages(6); g.Stages[5].Step.Hi = 301 }, api.ErrRange},
		"base before stages":    {func(g *api.Growth) { g.Base, g.Stages = 401, nil }, api.ErrRange},
		"most before stages":    {func(g *api.Growth) { g.Most, g.Stages = -1, stages(7) }, api.ErrRange},
		"number before content": {func(g *api.Growth) { g.Stages = make([]api.Stage, 7) }, api.ErrFull},
		"from before need":      {func(g *api.Growth) { g.Stages[0].From, g.Stages[0].Need = 1, one(0) }, api.ErrOrder},
		"need before step":      {func(g *api.Growth) { g.Stages[0].Need, g.Stages[0].Step = span(2, 1), one(-1) }, api.ErrOrder},
		"stage before next one": {func(g *api.Growth) { g.Stages[0].Step, g.Stages[1].From = span(2, 1), -1 }, api.ErrOrder},
	} {
		g := changed(c.change)
		if e := growth.Check(g); e != c.want {
			t.Errorf("%s: Check returns %d, not %d", name, e, c.want)
		}
		if c.want == api.OK {
			continue
		}
		// Check's error comes before each other one, in all functions that return it (R1).
		bad := one(-1)
		_, a := growth.Heat(g, make([]api.Span, 401))
		_, b := growth.Reach(g, api.Animal{Size: bad}, bad)
		_, d := growth.Fits(g, api.Animal{Size: bad}, bad, bad)
		_, f := growth.Next(g, nil, nil, bad, bad, bad)
		_, h := growth.Write(g)
		if a != c.want || b != c.want || d != c.want || f != c.want || h != c.want {
			t.Errorf("%s: Heat, Reach, Fits, Next, Write return %d %d %d %d %d, not %d", name, a, b, d, f, h, c.want)
		}
	}
}

// stages returns so many stages that are valid.
func stages(n int) []api.Stage {
	list := make([]api.Stage, n)
	for i := range list {
		list[i] = api.Stage{From: i * 400, Need: span(10, 20), Step: span(5, 10)}
	}
	return list
}

// P1.1: the heat of days; P0: both of its ends.
func TestHeat(t *testing.T) {
	for name, c := range map[string]struct {
		base int
		days []api.Span
		want api.Span
		e    api.Errno
	}{
		"example":               {50, []api.Span{span(60, 70), span(40, 50)}, span(10, 20), api.OK},
		"no day":                {50, nil, span(0, 0), api.OK},
		"at base":               {50, []api.Span{one(50)}, one(0), api.OK},
		"above base":            {50, []api.Span{one(51)}, one(1), api.OK},
		"cold counts 0":         {50, []api.Span{one(-50), one(60)}, one(10), api.OK},
		"around base":           {50, []api.Span{span(40, 60), span(-50, 400)}, span(0, 360), api.OK},
		"base below 0":          {-50, []api.Span{span(-50, 400)}, span(0, 450), api.OK},
		"a whole season":        {-50, slices.Repeat([]api.Span{one(400)}, 400), one(180000), api.OK},
		"too many days":         {50, slices.Repeat([]api.Span{span(70, 60)}, 401), span(0, 0), api.ErrFull},
		"backwards":             {50, []api.Span{span(70, 60)}, span(0, 0), api.ErrOrder},
		"too warm":              {50, []api.Span{span(70, 401)}, span(0, 0), api.ErrRange},
		"too cold":              {50, []api.Span{span(-51, 60)}, span(0, 0), api.ErrRange},
		"range before order":    {50, []api.Span{span(-51, -60)}, span(0, 0), api.ErrRange},
		"the first wrong day":   {50, []api.Span{one(1), span(2, 1), one(401)}, span(0, 0), api.ErrOrder},
		"the last day is wrong": {50, []api.Span{one(1), one(401)}, span(0, 0), api.ErrRange},
	} {
		g := changed(func(g *api.Growth) { g.Base = c.base })
		if s, e := growth.Heat(g, c.days); s != c.want || e != c.e {
			t.Errorf("%s: Heat returns %v %d, not %v %d", name, s, e, c.want, c.e)
		}
	}
}

// P1.1: the heat of some days is that of each true warmth.
func TestHeatOfAllTrueDays(t *testing.T) {
	days := []api.Span{span(48, 53), span(50, 52), span(44, 49), span(51, 55)}
	sums := map[int]bool{0: true}
	for _, d := range days {
		next := map[int]bool{}
		for sum := range sums {
			for w := d.Lo; w <= d.Hi; w++ {
				next[sum+max(0, w-50)] = true
			}
		}
		sums = next
	}
	want := span(1000, 0)
	for sum := range sums {
		want = span(min(want.Lo, sum), max(want.Hi, sum))
	}
	if s, e := growth.Heat(example(), days); s != want || e != api.OK {
		t.Errorf("Heat returns %v %d, not %v", s, e, want)
	}
}
