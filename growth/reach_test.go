package growth_test

import (
	"slices"
	"testing"

	"homarus/api"
	"homarus/growth"
)

func reach(moults, low, high int) api.Reach { return api.Reach{Moults: moults, Size: span(low, high)} }

// P1.2: what Reach returns for ordinary animals, and at the edges.
func TestReach(t *testing.T) {
	g := example()
	still := api.Growth{Most: 2500, Stages: []api.Stage{{Need: one(1)}}}
	apart := api.Growth{Most: 2500, Stages: []api.Stage{{Need: one(5), Step: one(10)}, {From: 1, Need: one(5), Step: one(20)}}}
	// Three sizes in a row, with a step of 7 for those below 2 alone: 7 and 8, and 2.
	touch := api.Growth{Most: 2500, Stages: []api.Stage{{Need: one(5), Step: one(7)}, {From: 2, Need: one(5), Step: one(7)}}}
	great := api.Growth{Most: 2500, Stages: []api.Stage{{Need: one(5), Step: one(300)}}}
	wide := api.Growth{Most: 2500, Stages: []api.Stage{{Need: one(5), Step: span(0, 300)}}}
	for name, c := range map[string]struct {
		g          api.Growth
		size, have api.Span
		heat       api.Span
		want       []api.Reach
	}{
		"example":                 {g, one(480), one(0), one(2500), []api.Reach{reach(1, 520, 540)}},
		"example, perhaps once":   {g, one(480), one(0), span(900, 1100), []api.Reach{reach(0, 480, 480), reach(1, 520, 540)}},
		"example, once or twice":  {g, span(440, 441), one(0), one(2200), []api.Reach{reach(1, 480, 501), reach(2, 520, 559)}},
		"just too little":         {g, one(480), one(0), one(999), []api.Reach{reach(0, 480, 480)}},
		"just enough, perhaps":    {g, one(480), one(0), one(1000), []api.Reach{reach(0, 480, 480), reach(1, 520, 540)}},
		"perhaps not enough":      {g, one(480), one(0), one(1199), []api.Reach{reach(0, 480, 480), reach(1, 520, 540)}},
		"surely enough":           {g, one(480), one(0), one(1200), []api.Reach{reach(1, 520, 540)}},
		"stored heat counts":      {g, one(480), one(1200), one(0), []api.Reach{reach(1, 520, 540)}},
		"store and heat together": {g, one(480), span(500, 700), span(400, 500), []api.Reach{reach(0, 480, 480), reach(1, 520, 540)}},
		"store too small":         {g, one(480), span(0, 499), span(0, 500), []api.Reach{reach(0, 480, 480)}},
		"the next stage":          {g, one(500), one(0), one(2999), []api.Reach{reach(0, 500, 500)}},
		"of either stage":         {g, span(499, 500), one(0), one(1200), []api.Reach{reach(0, 500, 500), reach(1, 539, 559)}},
		"up to most":              {g, one(1490), one(0), one(3000), []api.Reach{reach(0, 1490, 1490), reach(1, 1500, 1500)}},
		"partly up to most":       {g, one(1430), one(0), one(3500), []api.Reach{reach(1, 1490, 1500)}},
		"at most":                 {g, one(1500), one(0), one(3500), []api.Reach{reach(1, 1500, 1500)}},
		"beyond most":             {g, one(1600), one(0), one(7000), []api.Reach{reach(2, 1600, 1600)}},
		"around most":             {g, span(1499, 1502), one(0), one(3500), []api.Reach{reach(1, 1500, 1502)}},
		"to the greatest size":    {wide, one(2490), one(0), one(5), []api.Reach{reach(1, 2490, 2500)}},
		"as far beyond as can be": {great, one(2500), one(0), one(5), []api.Reach{reach(1, 2500, 2500)}},
		"the greatest step":       {wide, one(0), one(0), one(14), []api.Reach{reach(2, 0, 600)}},
		"sizes that lie apart":    {apart, span(0, 1), one(0), one(5), []api.Reach{reach(1, 10, 10), reach(1, 21, 21)}},
		"sizes that touch":        {touch, span(1, 2), one(0), one(5), []api.Reach{reach(1, 8, 9)}},
		"twelve moults":           {still, one(7), one(0), one(12), []api.Reach{reach(12, 7, 7)}},
		"all sizes":               {still, span(0, 2500), one(0), one(1), []api.Reach{reach(1, 0, 2500)}},
		"every number of moults":  {still, one(7), one(1), span(0, 2), []api.Reach{reach(1, 7, 7), reach(2, 7, 7), reach(3, 7, 7)}},
	} {
		list, e := growth.Reach(c.g, api.Animal{Size: c.size, Heat: c.have}, c.heat)
		if e != api.OK || !slices.Equal(list, c.want) {
			t.Errorf("%s: Reach returns %v %d, not %v", name, list, e, c.want)
		}
	}
}

// Numbers of moults may be left out: once an animal of 0 has moulted, it has enough for a second time.
func TestReachLeavesOutMoultsThatCannotBe(t *testing.T) {
	g := api.Growth{Most: 100, Stages: []api.Stage{{Need: span(1, 9), Step: one(50)}, {From: 50, Need: one(1), Step: one(1)}}}
	// With 8 of heat: none with a need of 9; otherwise 8 less that need moults more, so never none of them but with a need of 8.
	list, e := growth.Reach(g, api.Animal{}, one(8))
	want := []api.Reach{reach(0, 0, 0)}
	for n := range 8 {
		want = append(want, reach(n+1, 50+n, 50+n))
	}
	if e != api.OK || !slices.Equal(list, want) {
		t.Errorf("Reach returns %v %d, not %v", list, e, want)
	}
	g.Stages[0].Need = span(4, 5)
	want = []api.Reach{reach(4, 53, 53), reach(5, 54, 54)}
	if list, e = growth.Reach(g, api.Animal{}, one(8)); e != api.OK || !slices.Equal(list, want) {
		t.Errorf("Reach returns %v %d, not %v", list, e, want)
	}
}

// P1.2: the errors of Reach and Fits, in their order.
func TestReachErrors(t *testing.T) {
	still := api.Growth{Most: 2500, Stages: []api.Stage{{Need: one(1)}}}
	bad := span(2, 1)
	for name, c := range map[string]struct {
		g          api.Growth
		size, have api.Span
		heat       api.Span
		want       api.Errno
	}{
		"size below 0":           {still, span(-1, 5), bad, bad, api.ErrRange},
		"size 2501":              {still, span(5, 2501), bad, bad, api.ErrRange},
		"size backwards":         {still, span(5, 4), one(-1), one(-1), api.ErrOrder},
		"store below 0":          {still, one(5), one(-1), bad, api.ErrRange},
		"store too great":        {still, one(5), span(0, 1000001), bad, api.ErrRange},
		"store backwards":        {still, one(5), bad, one(-1), api.ErrOrder},
		"heat below 0":           {still, one(5), one(0), one(-1), api.ErrRange},
		"heat too great":         {still, one(5), one(0), one(1000001), api.ErrRange},
		"heat backwards":         {still, one(5), one(0), bad, api.ErrOrder},
		"13 moults":              {still, one(7), one(0), one(13), api.ErrFull},
		"perhaps 13 moults":      {still, one(7), span(0, 5), span(0, 8), api.ErrFull},
		"a million of moults":    {still, one(7), one(1000000), one(1000000), api.ErrFull},
		"only the lesser can":    {example(), span(400, 500), one(0), one(14000), api.OK},
		"only the lesser cannot": {changed(func(g *api.Growth) { g.Stages[0].Step = one(0) }), span(400, 500), one(0), one(14000), api.ErrFull},
	} {
		a := api.Animal{Size: c.size, Heat: c.have}
		list, e := growth.Reach(c.g, a, c.heat)
		if e != c.want || e != api.OK && list != nil {
			t.Errorf("%s: Reach returns %v %d, not %d", name, list, e, c.want)
		}
		// All of these come before the error of the sizes (R1).
		want := c.want
		if want == api.OK {
			want = api.ErrOrder
		}
		if v, e := growth.Fits(c.g, a, c.heat, bad); e != want || v != 0 {
			t.Errorf("%s: Fits returns %d %d, not %d", name, v, e, want)
		}
	}
}

// P1.2: the verdicts of Fits, and its errors.
func TestFits(t *testing.T) {
	a := api.Animal{Size: span(440, 441)}
	for name, c := range map[string]struct {
		sizes api.Span
		want  int
		e     api.Errno
	}{
		"just all":           {span(480, 559), api.Sure, api.OK},
		"more than all":      {span(0, 2500), api.Sure, api.OK},
		"example, some":      {span(500, 600), api.Open, api.OK},
		"not the least":      {span(481, 559), api.Open, api.OK},
		"not the greatest":   {span(480, 558), api.Open, api.OK},
		"the greatest alone": {one(559), api.Open, api.OK},
		"the least alone":    {span(0, 480), api.Open, api.OK},
		"example, none":      {span(560, 600), api.Never, api.OK},
		"all lesser ones":    {span(0, 479), api.Never, api.OK},
		"between two moults": {span(502, 519), api.Never, api.OK},
		"below 0":            {span(-1, 5), 0, api.ErrRange},
		"too great":          {span(0, 2501), 0, api.ErrRange},
		"backwards":          {span(9, 8), 0, api.ErrOrder},
	} {
		if v, e := growth.Fits(example(), a, one(2200), c.sizes); v != c.want || e != c.e {
			t.Errorf("%s: Fits returns %d %d, not %d %d", name, v, e, c.want, c.e)
		}
	}
}
