package tank_test

import (
	"slices"
	"testing"

	"homarus/api"
	"homarus/tank"
)

// oneTank returns a plant with a tank of so much water without animals, and no pump; nothing changes, and no limit can be broken.
func oneTank(litres int, w api.Water) api.Plant {
	return api.Plant{Tanks: []api.Tank{{Litres: litres, Water: w}}, Most: 100000, Warm: span(-50, 400)}
}

// still is water that is known.
func still(oxygen, ammonia, warm int) api.Water {
	return api.Water{Oxygen: one(oxygen), Ammonia: one(ammonia), Warm: one(warm)}
}

// hourOf returns what Run says of a tank in an hour.
func hourOf(t *testing.T, p api.Plant, pump, from, number, hour int) api.Water {
	t.Helper()
	list, e := tank.Run(p, pump, from, hour)
	if e != api.OK || len(list) != hour+1 || len(list[hour]) != len(p.Tanks) {
		t.Fatalf("%v: Run returns %v %d", p, list, e)
	}
	return list[hour][number]
}

// P7.1: the chapter's examples.
func TestRunExamples(t *testing.T) {
	start := still(900, 0, 60)
	for name, c := range map[string]struct {
		pump, from int
		want       []api.Water
	}{
		"no pump fails": {-1, 0, []api.Water{
			start,
			{Oxygen: span(915, 925), Ammonia: one(1), Warm: span(52, 68)},
			{Oxygen: span(918, 932), Ammonia: span(1, 2), Warm: span(50, 70)},
		}},
		"the pump 0 from 0 on": {0, 0, []api.Water{
			start,
			{Oxygen: span(865, 875), Ammonia: one(1), Warm: span(57, 63)},
			{Oxygen: span(838, 857), Ammonia: span(1, 2), Warm: span(55, 65)},
		}},
		"the pump 1 from 1 on": {1, 1, []api.Water{
			start,
			{Oxygen: span(915, 925), Ammonia: one(1), Warm: span(52, 68)},
			{Oxygen: span(897, 913), Ammonia: span(1, 2), Warm: span(51, 69)},
		}},
	} {
		list, e := tank.Run(examplePlant(), c.pump, c.from, 2)
		if e != api.OK || len(list) != 3 {
			t.Fatalf("%s: Run returns %v %d", name, list, e)
		}
		for hour, waters := range list {
			if !slices.Equal(waters, c.want[hour:hour+1]) {
				t.Errorf("%s: hour %d: %v, not %v", name, hour, waters, c.want[hour])
			}
		}
	}
}

// P7.1: the pump is looked at before the hours.
func TestRunErrors(t *testing.T) {
	for _, c := range []struct {
		pump, from, hours int
		want              api.Errno
	}{
		{-1, 0, 0, api.OK}, {-1, 48, 48, api.OK}, {1, 48, 0, api.OK}, {0, 0, 48, api.OK},
		{-2, 0, 0, api.ErrMissing}, {2, 0, 0, api.ErrMissing}, {2, -1, -1, api.ErrMissing}, {-2, 49, 49, api.ErrMissing},
		{-1, -1, 0, api.ErrRange}, {-1, 49, 0, api.ErrRange}, {0, -1, 5, api.ErrRange}, {1, 49, 48, api.ErrRange},
		{-1, 0, -1, api.ErrRange}, {-1, 0, 49, api.ErrRange}, {1, 3, 49, api.ErrRange},
	} {
		list, e := tank.Run(examplePlant(), c.pump, c.from, c.hours)
		if e != c.want || e == api.OK && len(list) != c.hours+1 || e != api.OK && len(list) != 0 {
			t.Errorf("Run(%d %d %d) returns %d hours and %d, not %d", c.pump, c.from, c.hours, len(list), e, c.want)
		}
	}
	p := examplePlant()
	p.Pumps = nil
	if _, e := tank.Run(p, 0, 0, 0); e != api.ErrMissing {
		t.Error("without a pump Run returns", e)
	}
	if _, e := tank.Run(p, -1, 0, 0); e != api.OK {
		t.Error("without a pump Run returns", e)
	}
}

// P7.1: each tank has its own litres, animals and pumps, and all have one sea.
func TestRunTanks(t *testing.T) {
	p := oneTank(10, still(100, 0, 0))
	p.Tanks = append(p.Tanks, api.Tank{Litres: 20, Grams: 1000, Water: still(200, 7, 40)}, api.Tank{Litres: 5, Grams: 3000, Water: still(50, 0, 0)})
	p.Pumps = []api.Pump{{Tank: 1, Flow: 10}, {Tank: 0, Flow: 5}, {Tank: 1, Flow: 5}}
	p.Sea, p.Use, p.Waste = still(1000, 0, 80), one(20), one(40)
	for pump, want := range map[int][]api.Water{
		-1: {still(550, 0, 40), {Oxygen: one(799), Ammonia: span(3, 4), Warm: one(70)}, still(38, 24, 0)},
		0:  {still(550, 0, 40), {Oxygen: one(399), Ammonia: span(7, 8), Warm: one(50)}, still(38, 24, 0)},
		1:  {still(100, 0, 0), {Oxygen: one(799), Ammonia: span(3, 4), Warm: one(70)}, still(38, 24, 0)},
		2:  {still(550, 0, 40), {Oxygen: one(599), Ammonia: span(5, 6), Warm: one(60)}, still(38, 24, 0)},
	} {
		if list, e := tank.Run(p, pump, 0, 1); e != api.OK || !slices.Equal(list[1], want) {
			t.Errorf("pump %d: Run returns %v %d, not %v", pump, list, e, want)
		}
	}
}

// P7.1: a pump works up to the hour from which on it fails.
func TestRunFrom(t *testing.T) {
	p := oneTank(100, still(0, 0, 0))
	p.Pumps, p.Sea = []api.Pump{{Flow: 100}}, still(9, 0, 0)
	for from, want := range [][]int{{0, 0, 0, 0}, {0, 9, 9, 9}} {
		for hour, oxygen := range want {
			if got := hourOf(t, p, 0, from, 0, hour).Oxygen; got != one(oxygen) {
				t.Errorf("from %d, hour %d: %v", from, hour, got)
			}
		}
	}
	p.Pumps, p.Air = []api.Pump{{Flow: 0}, {Flow: 100}}, one(1)
	for from, want := range map[int][]int{0: {0, 1, 2, 3}, 1: {0, 10, 11, 12}, 2: {0, 10, 10, 11}, 3: {0, 10, 10, 10}, 48: {0, 10, 10, 10}} {
		for hour, oxygen := range want {
			if got := hourOf(t, p, 1, from, 0, hour).Oxygen; got != one(oxygen) {
				t.Errorf("with air, from %d, hour %d: %v, not %d", from, hour, got, oxygen)
			}
		}
	}
}

// P7.1: the least number is rounded down, the greatest one up, also below 0.
func TestRunRounds(t *testing.T) {
	p := oneTank(4, still(10, 10, -2))
	p.Pumps, p.Sea = []api.Pump{{Flow: 1}}, still(11, 9, -3)
	if got, want := hourOf(t, p, -1, 0, 0, 1), (api.Water{Oxygen: span(10, 11), Ammonia: span(9, 10), Warm: span(-3, -2)}); got != want {
		t.Errorf("%v, not %v", got, want)
	}
	p.Sea = still(10, 10, 1)
	if got, want := hourOf(t, p, -1, 0, 0, 1), (api.Water{Oxygen: one(10), Ammonia: one(10), Warm: span(-2, -1)}); got != want {
		t.Errorf("%v, not %v", got, want)
	}
	// All is one sum, of which the whole is rounded: a quarter from the sea, and three that are used or left.
	p.Sea, p.Tanks[0].Grams, p.Use, p.Waste = still(11, 11, -2), 1000, one(1), one(3)
	if got, want := hourOf(t, p, -1, 0, 0, 1), still(10, 11, -2); got != want {
		t.Errorf("%v, not %v", got, want)
	}
	p.Tanks[0].Grams = 1001
	if got, want := hourOf(t, p, -1, 0, 0, 1), (api.Water{Oxygen: span(9, 10), Ammonia: span(11, 12), Warm: one(-2)}); got != want {
		t.Errorf("%v, not %v", got, want)
	}
	p.Tanks[0].Grams = 999
	if got, want := hourOf(t, p, -1, 0, 0, 1), (api.Water{Oxygen: span(10, 11), Ammonia: span(10, 11), Warm: one(-2)}); got != want {
		t.Errorf("%v, not %v", got, want)
	}
}

// P7.1: no number leaves its bounds.
func TestRunBounds(t *testing.T) {
	p := oneTank(1, api.Water{Oxygen: span(0, 100000), Ammonia: span(0, 100000), Warm: span(-50, 400)})
	p.Tanks[0].Grams, p.Use, p.Waste, p.Air, p.Gain = 1000, span(0, 7), span(0, 7), span(0, 5), span(-3, 3)
	if got := hourOf(t, p, -1, 0, 0, 1); got != p.Tanks[0].Water {
		t.Errorf("%v", got)
	}
	p.Tanks[0].Water = still(1, 99999, 398)
	p.Use, p.Waste, p.Air, p.Gain = span(2, 3), span(1, 2), api.Span{}, span(2, 3)
	if got, want := hourOf(t, p, -1, 0, 0, 1), still(0, 100000, 400); got != want {
		t.Errorf("%v, not %v", got, want)
	}
	p.Tanks[0].Water = still(99999, 0, -48)
	p.Use, p.Waste, p.Air, p.Gain = api.Span{}, api.Span{}, span(0, 2), span(-3, -1)
	if got, want := hourOf(t, p, -1, 0, 0, 1), (api.Water{Oxygen: span(99999, 100000), Ammonia: one(0), Warm: span(-50, -49)}); got != want {
		t.Errorf("%v, not %v", got, want)
	}
	p.Air, p.Gain = one(100000), one(400)
	if got, want := hourOf(t, p, -1, 0, 0, 1), still(100000, 0, 352); got != want {
		t.Errorf("%v, not %v", got, want)
	}
	p.Gain, p.Tanks[0].Grams, p.Use, p.Waste = one(-400), 10000000, one(100000), one(100000)
	if got, want := hourOf(t, p, -1, 0, 0, 2), still(0, 100000, -50); got != want {
		t.Errorf("%v, not %v", got, want)
	}
	// With the greatest numbers everywhere, and what is used and given in balance.
	p = oneTank(100000, still(100000, 0, 400))
	p.Pumps, p.Sea = []api.Pump{{Flow: 50000}, {Flow: 49999}}, still(100000, 100000, 400)
	p.Tanks[0].Grams, p.Use, p.Air, p.Waste = 10000000, span(99999, 100000), span(9999, 10000), span(1, 100000)
	if got, want := hourOf(t, p, -1, 0, 0, 1), (api.Water{Oxygen: span(99999, 100000), Ammonia: span(99999, 100000), Warm: one(400)}); got != want {
		t.Errorf("%v, not %v", got, want)
	}
}

// holding is what Holds returns.
type holding struct {
	verdict, pump, from int
	e                   api.Errno
}

func holds(p api.Plant, hours int) holding {
	verdict, pump, from, e := tank.Holds(p, hours)
	return holding{verdict, pump, from, e}
}

// P7.2: the chapter's examples, and the ends of hours.
func TestHolds(t *testing.T) {
	atLeast := func(least int) api.Plant { return changedPlant(func(p *api.Plant) { p.Least = least }) }
	for name, c := range map[string]struct {
		p     api.Plant
		hours int
		want  holding
	}{
		"P for 4 hours":            {examplePlant(), 4, holding{api.Sure, -1, -1, api.OK}},
		"P for 5 hours":            {examplePlant(), 5, holding{api.Open, 0, 0, api.OK}},
		"with Least 880":           {atLeast(880), 1, holding{api.Never, 0, 0, api.OK}},
		"with Least 950":           {atLeast(950), 1, holding{api.Never, -1, 0, api.OK}},
		"with Least 950, at once":  {atLeast(950), 0, holding{api.Never, -1, 0, api.OK}},
		"with Least 900, at once":  {atLeast(900), 0, holding{api.Sure, -1, -1, api.OK}},
		"with Least 901, at once":  {atLeast(901), 0, holding{api.Never, -1, 0, api.OK}},
		"P for 0 hours":            {examplePlant(), 0, holding{api.Sure, -1, -1, api.OK}},
		"P for 48 hours":           {examplePlant(), 48, holding{api.Open, 0, 0, api.OK}},
		"P for -1 hours":           {examplePlant(), -1, holding{e: api.ErrRange}},
		"P for 49 hours":           {examplePlant(), 49, holding{e: api.ErrRange}},
		"no pump, nothing happens": {oneTank(1, still(0, 0, 0)), 48, holding{api.Sure, -1, -1, api.OK}},
	} {
		if got := holds(c.p, c.hours); got != c.want {
			t.Errorf("%s: Holds returns %v, not %v", name, got, c.want)
		}
	}
}

// P7.2: both ends of each limit, where it is surely kept, surely broken, or neither.
func TestHoldsLimits(t *testing.T) {
	w := api.Water{Oxygen: span(10, 20), Ammonia: span(30, 40), Warm: span(50, 60)}
	for name, c := range map[string]struct {
		least, most int
		warm        api.Span
		want        int
	}{
		"just kept":                   {10, 40, span(50, 60), api.Sure},
		"oxygen perhaps too low":      {11, 40, span(50, 60), api.Open},
		"oxygen just enough":          {20, 40, span(50, 60), api.Open},
		"oxygen too low":              {21, 40, span(50, 60), api.Never},
		"ammonia perhaps too high":    {10, 39, span(50, 60), api.Open},
		"ammonia just low enough":     {10, 30, span(50, 60), api.Open},
		"ammonia too high":            {10, 29, span(50, 60), api.Never},
		"perhaps too cold":            {10, 40, span(51, 60), api.Open},
		"just warm enough":            {10, 40, span(60, 70), api.Open},
		"too cold":                    {10, 40, span(61, 70), api.Never},
		"perhaps too warm":            {10, 40, span(50, 59), api.Open},
		"just cold enough":            {10, 40, span(40, 50), api.Open},
		"too warm":                    {10, 40, span(40, 49), api.Never},
		"between":                     {10, 40, span(54, 55), api.Open},
		"all perhaps":                 {15, 35, span(54, 55), api.Open},
		"two perhaps, and one surely": {15, 35, span(61, 61), api.Never},
	} {
		p := oneTank(1, w)
		p.Least, p.Most, p.Warm = c.least, c.most, c.warm
		want := holding{c.want, -1, 0, api.OK}
		if c.want == api.Sure {
			want.from = -1
		}
		for _, hours := range []int{0, 1, 48} {
			if got := holds(p, hours); got != want {
				t.Errorf("%s: Holds returns %v for %d hours, not %v", name, got, hours, want)
			}
		}
		// The same tank behind one that keeps all limits, and before it.
		p.Tanks = append(p.Tanks, api.Tank{Litres: 1, Water: still(100, 0, c.warm.Lo)})
		if got := holds(p, 2); got != want {
			t.Errorf("%s: Holds returns %v with a tank behind, not %v", name, got, want)
		}
		slices.Reverse(p.Tanks)
		if got := holds(p, 2); got != want {
			t.Errorf("%s: Holds returns %v with a tank before, not %v", name, got, want)
		}
	}
}

// P7.2: the scenario that is named is the first one in which the limits are not surely kept, whatever another one breaks.
func TestHoldsScenario(t *testing.T) {
	// Oxygen that the pumps give each hour, and that is used up at once.
	p := oneTank(10, still(100, 0, 0))
	p.Tanks[0].Grams, p.Use, p.Sea, p.Least = 1000, one(100), still(110, 0, 0), 90
	p.Pumps = []api.Pump{{Flow: 0}, {Flow: 1}, {Flow: 9}}
	for least, want := range map[int]holding{
		90:  {api.Never, 2, 0, api.OK},
		100: {api.Never, 1, 0, api.OK},
		101: {api.Never, -1, 0, api.OK},
		92:  {api.Never, 2, 0, api.OK},
		0:   {api.Sure, -1, -1, api.OK},
	} {
		p.Least = least
		if got := holds(p, 2); got != want {
			t.Errorf("Least %d: Holds returns %v, not %v", least, got, want)
		}
	}
	// It gets warmer each hour, and one of two pumps is enough.
	p = oneTank(2, still(0, 0, 10))
	p.Pumps, p.Sea, p.Gain, p.Warm = []api.Pump{{Flow: 1}, {Flow: 1}}, still(0, 0, 10), one(1), span(0, 13)
	for hours, want := range map[int]holding{
		2: {api.Sure, -1, -1, api.OK},
		3: {api.Sure, -1, -1, api.OK},
		9: {api.Sure, -1, -1, api.OK},
	} {
		if got := holds(p, hours); got != want {
			t.Errorf("%d hours: Holds returns %v, not %v", hours, got, want)
		}
	}
	// Without the pump 1 it gets warmer, without the pump 0 it stays as it is.
	p.Pumps = []api.Pump{{Flow: 0}, {Flow: 2}}
	for hours, want := range map[int]holding{
		3: {api.Sure, -1, -1, api.OK},
		4: {api.Never, 1, 0, api.OK},
		9: {api.Never, 1, 0, api.OK},
	} {
		if got := holds(p, hours); got != want {
			t.Errorf("%d hours: Holds returns %v, not %v", hours, got, want)
		}
	}
}

// P7.2: a pump may do no harm if it fails at once, and some if it fails later.
func TestHoldsLate(t *testing.T) {
	// The sea is warm; a pump that fails leaves in the tank what it gave before.
	p := oneTank(2, still(0, 0, 0))
	p.Pumps, p.Sea, p.Gain, p.Warm = []api.Pump{{Flow: 2}}, still(0, 0, 100), one(5), span(0, 109)
	// With the pump it is 105, and it is 110 an hour after the pump failed.
	for hours, want := range map[int]holding{
		0: {api.Sure, -1, -1, api.OK},
		1: {api.Sure, -1, -1, api.OK},
		2: {api.Never, 0, 1, api.OK},
		3: {api.Never, 0, 1, api.OK},
	} {
		if got := holds(p, hours); got != want {
			t.Errorf("%d hours: Holds returns %v, not %v", hours, got, want)
		}
	}
	// It takes two hours without the pump until it is 115.
	p.Warm = span(0, 114)
	for hours, want := range map[int]holding{
		2: {api.Sure, -1, -1, api.OK},
		3: {api.Never, 0, 1, api.OK},
	} {
		if got := holds(p, hours); got != want {
			t.Errorf("%d hours, wider: Holds returns %v, not %v", hours, got, want)
		}
	}
}

// P7.3: the chapter's examples, and both ends of what there may be room for.
func TestRoom(t *testing.T) {
	change := func(change func(p *api.Plant)) api.Plant { return changedPlant(change) }
	for name, c := range map[string]struct {
		p             api.Plant
		number, hours int
		want          int
		e             api.Errno
	}{
		"P for an hour":              {examplePlant(), 0, 1, 20833, api.OK},
		"with Least 950":             {change(func(p *api.Plant) { p.Least = 950 }), 0, 1, 0, api.ErrMissing},
		"P at once":                  {examplePlant(), 0, 0, 10000000, api.OK},
		"with Least 950, at once":    {change(func(p *api.Plant) { p.Least = 950 }), 0, 0, 0, api.ErrMissing},
		"with Least 900 for an hour": {change(func(p *api.Plant) { p.Least = 900 }), 0, 1, 4166, api.OK},
		"too warm":                   {change(func(p *api.Plant) { p.Warm = span(40, 65) }), 0, 1, 0, api.ErrMissing},
		"no use, and no waste":       {change(func(p *api.Plant) { p.Use, p.Waste = one(0), one(0) }), 0, 48, 10000000, api.OK},
		"no use":                     {change(func(p *api.Plant) { p.Use = one(0) }), 0, 1, 500000, api.OK},
		"Least 0":                    {change(func(p *api.Plant) { p.Least = 0 }), 0, 1, 500000, api.OK},
		"Least 0, Most 100000":       {change(func(p *api.Plant) { p.Least, p.Most = 0, 100000 }), 0, 48, 10000000, api.OK},
		"other animals":              {change(func(p *api.Plant) { p.Tanks[0].Grams = 7 }), 0, 1, 20833, api.OK},
		"no animal":                  {change(func(p *api.Plant) { p.Sea.Oxygen, p.Least = one(900), 900 }), 0, 1, 0, api.OK},
		"the other tank is bad":      {change(func(p *api.Plant) { p.Tanks = append(p.Tanks, oneTank(1, still(0, 0, 0)).Tanks...) }), 0, 1, 20833, api.OK},
		"the bad tank":               {change(func(p *api.Plant) { p.Tanks = append(p.Tanks, oneTank(1, still(0, 0, 0)).Tanks...) }), 1, 1, 0, api.ErrMissing},
		"tank -1":                    {examplePlant(), -1, 1, 0, api.ErrMissing},
		"tank 1":                     {examplePlant(), 1, 1, 0, api.ErrMissing},
		"tank 1, hour -1":            {examplePlant(), 1, -1, 0, api.ErrMissing},
		"hour -1":                    {examplePlant(), 0, -1, 0, api.ErrRange},
		"hour 48":                    {examplePlant(), 0, 48, 8333, api.OK},
		"hour 49":                    {examplePlant(), 0, 49, 0, api.ErrRange},
	} {
		if n, e := tank.Room(c.p, c.number, c.hours); n != c.want || e != c.e {
			t.Errorf("%s: Room returns %d %d, not %d %d", name, n, e, c.want, c.e)
		}
	}
}
