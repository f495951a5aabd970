package catch_test

import (
	"math"
	"slices"
	"testing"

	"homarus/api"
	"homarus/catch"
)

const kept, back, dead = api.FateKept, api.FateBack, api.FateDead

// exampleTrip is the trip of the chapter's last example: the gauge G, and the pull 3 with M kept, N back.
func exampleTrip() api.Voyage {
	return api.Voyage{Gauge: gaugeG(), Pulls: []api.Pull{{Tag: 3, Animals: []api.Caught{maleM(), femaleN()}, Fates: []int{kept, back}}}}
}

// longTrip has three pulls, one of them empty, and animals of all fates.
func longTrip() api.Voyage {
	t := exampleTrip()
	t.Pulls = append(t.Pulls, api.Pull{Tag: 39}, api.Pull{Tag: 0, Animals: []api.Caught{femaleA(), sized(830, 840), maleM(), sized(1, 2), femaleN()}, Fates: []int{back, kept, dead, dead, back}})
	return t
}

// tripWith returns the long trip with a change.
func tripWith(change func(t *api.Voyage)) api.Voyage {
	t := longTrip()
	change(&t)
	return t
}

// fullTrip has so many pulls, with so many animals each.
func fullTrip(pulls, animals int) api.Voyage {
	t := api.Voyage{Gauge: gaugeG()}
	for tag := range pulls {
		t.Pulls = append(t.Pulls, api.Pull{Tag: tag, Animals: slices.Repeat([]api.Caught{maleM()}, animals), Fates: slices.Repeat([]int{back}, animals)})
	}
	return t
}

// tripErrors are changes of the long trip, and the first error that it has then.
func tripErrors() map[string]struct {
	change func(t *api.Voyage)
	want   api.Errno
} {
	type pull = func(p *api.Pull)
	in := func(i int, changes ...pull) func(t *api.Voyage) {
		return func(t *api.Voyage) {
			for _, change := range changes {
				change(&t.Pulls[i])
			}
		}
	}
	tag := func(tag int) pull { return func(p *api.Pull) { p.Tag = tag } }
	animals := func(many int) pull {
		return func(p *api.Pull) { p.Animals = slices.Repeat([]api.Caught{maleM()}, many) }
	}
	fates := func(many int) pull { return func(p *api.Pull) { p.Fates = slices.Repeat([]int{dead}, many) } }
	animal := func(i int, c api.Caught) pull { return func(p *api.Pull) { p.Animals[i] = c } }
	fate := func(i, fate int) pull { return func(p *api.Pull) { p.Fates[i] = fate } }
	male := func(eggs int) api.Caught { return with(maleM(), func(c *api.Caught) { c.Eggs = eggs }) }
	return map[string]struct {
		change func(t *api.Voyage)
		want   api.Errno
	}{
		"as it is":                      {in(0), api.OK},
		"nothing at all":                {func(t *api.Voyage) { *t = api.Voyage{} }, api.OK},
		"no pull":                       {func(t *api.Voyage) { t.Pulls = nil }, api.OK},
		"Low":                           {func(t *api.Voyage) { t.Gauge.Low, t.Pulls = -1, make([]api.Pull, 21) }, api.ErrRange},
		"High":                          {func(t *api.Voyage) { t.Gauge.High = 2501 }, api.ErrRange},
		"Low above High":                {func(t *api.Voyage) { t.Gauge.Low, t.Pulls = 1300, make([]api.Pull, 21) }, api.ErrOrder},
		"20 pulls":                      {func(t *api.Voyage) { *t = fullTrip(20, 0) }, api.OK},
		"21 pulls":                      {func(t *api.Voyage) { *t = fullTrip(21, 0) }, api.ErrFull},
		"21 pulls, one is wrong":        {func(t *api.Voyage) { t.Pulls = make([]api.Pull, 21); t.Pulls[0].Tag = -1 }, api.ErrFull},
		"20 pulls of 30":                {func(t *api.Voyage) { *t = fullTrip(20, 30) }, api.OK},
		"a pull of 31":                  {func(t *api.Voyage) { *t = fullTrip(20, 31) }, api.ErrFull},
		"Tag below 0":                   {in(0, tag(-1)), api.ErrRange},
		"Tag 40":                        {in(0, tag(40)), api.ErrRange},
		"Tag below 0, too many animals": {in(2, tag(-1), animals(31)), api.ErrRange},
		"a very great Tag":              {in(1, tag(math.MaxInt)), api.ErrRange},
		"the least Tag":                 {in(1, tag(math.MinInt)), api.ErrRange},
		"a Tag again":                   {in(1, tag(3)), api.ErrExists},
		"the Tag before the last again": {in(2, tag(39)), api.ErrExists},
		"the first Tag again":           {in(2, tag(3), animals(31)), api.ErrExists},
		"30 animals":                    {in(1, animals(30), fates(30)), api.OK},
		"31 animals":                    {in(1, animals(31), fates(31)), api.ErrFull},
		"31 animals, no fate":           {in(1, animals(31)), api.ErrFull},
		"30 animals, no fate":           {in(1, animals(30)), api.ErrForm},
		"a fate less":                   {in(2, fates(4), animal(0, wrongCaught())), api.ErrForm},
		"a fate more":                   {in(2, fates(6), animal(0, wrongCaught())), api.ErrForm},
		"fates without animals":         {in(1, fates(31)), api.ErrForm},
		"an animal's order":             {in(2, animal(1, wrongOrder()), fate(1, 0)), api.ErrOrder},
		"an animal's kind":              {in(2, animal(4, wrongCaught()), fate(4, 0)), api.ErrKind},
		"an animal's size":              {in(2, animal(4, sized(-1, 5))), api.ErrRange},
		"an animal's eggs":              {in(2, animal(2, male(o)), fate(2, 0)), api.ErrClash},
		"fate 0":                        {in(2, fate(0, 0)), api.ErrKind},
		"fate 4":                        {in(2, fate(0, 4)), api.ErrKind},
		"fate -1":                       {in(2, fate(0, -1)), api.ErrKind},
		"fate 4 of what is too small":   {in(2, fate(3, 4)), api.ErrKind},
		"one is too small":              {in(2, fate(3, kept)), api.ErrClash},
		"one is too large":              {in(2, animal(1, sized(1271, 1271))), api.ErrClash},
		"one may be too small":          {in(2, fate(0, kept)), api.ErrClash},
		"one may be too large":          {in(2, animal(1, sized(1270, 1271))), api.ErrClash},
		"one is just not too large":     {in(2, animal(1, sized(1270, 1270))), api.OK},
		"one has eggs":                  {in(2, fate(4, kept)), api.ErrClash},
		"one may have eggs":             {in(2, animal(1, with(sized(900, 900), func(c *api.Caught) { c.Eggs = o }))), api.ErrClash},
		"one may have a notch":          {in(2, animal(1, with(sized(900, 900), func(c *api.Caught) { c.Notch = o }))), api.ErrClash},
		"a soft one, Soft set":          {func(t *api.Voyage) { t.Gauge.Soft = true }, api.ErrClash},
		"eggs, Eggs not set": {func(t *api.Voyage) {
			t.Gauge.Eggs, t.Gauge.Notch = false, false
			t.Pulls[2].Fates[4] = kept
		}, api.OK},
		"the first pull comes first":   {func(t *api.Voyage) { t.Pulls[0].Fates[0], t.Pulls[1].Tag = 9, -1 }, api.ErrKind},
		"the first animal comes first": {in(2, fate(0, kept), animal(1, wrongOrder())), api.ErrClash},
		"a fate before the next one":   {in(2, fate(0, 9), animal(1, wrongOrder())), api.ErrKind},
	}
}

// P4.3: the errors of trips, in their order, are those of Fates, Released and Write, too.
func TestCheckTrip(t *testing.T) {
	for name, c := range tripErrors() {
		trip := tripWith(c.change)
		if e := catch.CheckTrip(trip); e != c.want {
			t.Errorf("%s: CheckTrip returns %d, not %d", name, e, c.want)
		}
		a, b, d, e := catch.Fates(trip)
		if e != c.want || e != api.OK && len(a)+len(b)+len(d) > 0 {
			t.Errorf("%s: Fates returns %v %v %v %d, not %d", name, a, b, d, e, c.want)
		}
		if l, e := catch.Released(trip); e != c.want || e != api.OK && len(l) > 0 {
			t.Errorf("%s: Released returns %v %d, not %d", name, l, e, c.want)
		}
		if s, e := catch.Write(trip); c.want != api.OK && (e != c.want || s != "") {
			t.Errorf("%s: Write returns %q %d, not %d", name, s, e, c.want)
		}
	}
	for c, want := range caughtErrors() {
		trip := tripWith(func(t *api.Voyage) { t.Pulls[2].Animals[0] = c })
		if e := catch.CheckTrip(trip); e != want {
			t.Errorf("%v: CheckTrip returns %d, not %d", c, e, want)
		}
	}
	for g, want := range gaugeErrors() {
		if e := catch.CheckTrip(api.Voyage{Gauge: g}); e != want {
			t.Errorf("%v: CheckTrip returns %d, not %d", g, e, want)
		}
	}
}

// P4.3: what becomes of the animals, in the order of the pulls, and of the animals in them.
func TestFates(t *testing.T) {
	for name, c := range map[string]struct {
		t                api.Voyage
		kept, back, dead []api.Caught
	}{
		"nothing":   {api.Voyage{}, nil, nil, nil},
		"example":   {exampleTrip(), []api.Caught{maleM()}, []api.Caught{femaleN()}, nil},
		"long trip": {longTrip(), []api.Caught{maleM(), sized(830, 840)}, []api.Caught{femaleN(), femaleA(), femaleN()}, []api.Caught{maleM(), sized(1, 2)}},
	} {
		kept, back, dead, e := catch.Fates(c.t)
		if e != api.OK || !slices.Equal(kept, c.kept) || !slices.Equal(back, c.back) || !slices.Equal(dead, c.dead) {
			t.Errorf("%s: Fates returns %v %v %v %d", name, kept, back, dead, e)
		}
	}
}

// P4.3: females whose verdict on eggs is Sure get a notch, whatever was said of it before, and nobody else does.
func TestReleased(t *testing.T) {
	notched := with(femaleN(), func(c *api.Caught) { c.Notch = y })
	trip := api.Voyage{Pulls: []api.Pull{{}}}
	var want []api.Caught
	add := func(c, after api.Caught, fate int) {
		p := &trip.Pulls[0]
		p.Animals, p.Fates = append(p.Animals, c), append(p.Fates, fate)
		if fate == back {
			want = append(want, after)
		}
	}
	for _, eggs := range []int{y, n, o} {
		for _, notch := range []int{y, n, o} {
			c := with(femaleA(), func(c *api.Caught) { c.Eggs, c.Notch = eggs, notch })
			after := c
			if eggs == y {
				after.Notch = y
			}
			add(c, after, back)
			add(c, after, dead)
		}
	}
	add(maleM(), maleM(), back)
	for name, c := range map[string]struct {
		t    api.Voyage
		want []api.Caught
	}{
		"nothing":      {api.Voyage{}, nil},
		"example":      {exampleTrip(), []api.Caught{notched}},
		"long trip":    {longTrip(), []api.Caught{notched, femaleA(), notched}},
		"all verdicts": {trip, want},
	} {
		if l, e := catch.Released(c.t); e != api.OK || !slices.Equal(l, c.want) {
			t.Errorf("%s: Released returns %v %d, not %v", name, l, e, c.want)
		}
	}
	if trip.Pulls[0].Animals[2].Notch != n {
		t.Error("Released has changed the trip")
	}
}
