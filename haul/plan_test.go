package haul_test

import (
	"slices"
	"testing"

	"homarus/api"
	"homarus/haul"
)

// P3.1: which error a plan has, at both ends of each bound, and which one comes first.
func TestPlanErrors(t *testing.T) {
	for name, c := range map[string]struct {
		plan   []int
		change func(t *api.Tour)
		want   api.Errno
	}{
		"stop -1":                    {[]int{-1}, func(t *api.Tour) {}, api.ErrMissing},
		"stop 2":                     {[]int{2}, func(t *api.Tour) {}, api.OK},
		"stop 3":                     {[]int{3}, func(t *api.Tour) {}, api.ErrMissing},
		"all stops":                  {[]int{0, 1, 2}, func(t *api.Tour) { t.Bait = 40 }, api.OK},
		"twice":                      {[]int{1, 1}, func(t *api.Tour) {}, api.ErrExists},
		"twice, not in a row":        {[]int{0, 1, 0}, func(t *api.Tour) {}, api.ErrExists},
		"twice without a trap":       {[]int{2, 2}, func(t *api.Tour) { t.Stops[2] = api.Stop{To: 1440} }, api.ErrExists},
		"-1 first":                   {[]int{-1, 0, 0}, func(t *api.Tour) {}, api.ErrMissing},
		"-1 behind":                  {[]int{0, 0, -1}, func(t *api.Tour) {}, api.ErrExists},
		"3 behind one that is full":  {[]int{1, 3}, func(t *api.Tour) { t.Bait = 19 }, api.ErrFull},
		"3 behind one that is late":  {[]int{1, 3}, func(t *api.Tour) { t.Start = 381 }, api.ErrLate},
		"3 before one that is late":  {[]int{3, 1}, func(t *api.Tour) { t.Start = 381 }, api.ErrMissing},
		"3 behind a way that is far": {[]int{2, 3}, func(t *api.Tour) { t.End = 300 }, api.ErrMissing},
		"3, and too much fuel":       {[]int{2, 3}, func(t *api.Tour) { t.Tank = 0 }, api.ErrMissing},
		"as much bait":               {[]int{0}, func(t *api.Tour) { t.Bait = 10 }, api.OK},
		"a bait less":                {[]int{0}, func(t *api.Tour) { t.Bait = 9 }, api.ErrFull},
		"as much bait for two":       {[]int{0, 2}, func(t *api.Tour) { t.Bait = 20 }, api.OK},
		"a bait less for two":        {[]int{0, 2}, func(t *api.Tour) { t.Bait = 19 }, api.ErrFull},
		"no bait, no trap":           {[]int{0}, func(t *api.Tour) { t.Bait, t.Stops[0].Traps = 0, 0 }, api.OK},
		"twice and full":             {[]int{1, 1}, func(t *api.Tour) { t.Bait = 20 }, api.ErrExists},
		"full and late":              {[]int{1}, func(t *api.Tour) { t.Bait, t.Start = 19, 381 }, api.ErrFull},
		"full, then late":            {[]int{0, 1}, func(t *api.Tour) { t.Bait, t.Start = 9, 306 }, api.ErrFull},
		"late, then full":            {[]int{1, 0}, func(t *api.Tour) { t.Bait, t.Start = 20, 381 }, api.ErrLate},
		"begins at To":               {[]int{1}, func(t *api.Tour) { t.Start = 380 }, api.OK},
		"begins behind To":           {[]int{1}, func(t *api.Tour) { t.Start = 381 }, api.ErrLate},
		"begins at From":             {[]int{1}, func(t *api.Tour) { t.Stops[1].From = 420 }, api.OK},
		"a wait makes it late":       {[]int{1, 0}, func(t *api.Tour) { t.Stops[0].To = 454 }, api.ErrLate},
		"a wait makes it not late":   {[]int{1, 0}, func(t *api.Tour) { t.Stops[0].To = 455 }, api.OK},
		"a wait, and back too late":  {[]int{1}, func(t *api.Tour) { t.End = 469 }, api.ErrLate},
		"a wait, and back in time":   {[]int{1}, func(t *api.Tour) { t.End = 470 }, api.OK},
		"back at End":                {[]int{0, 1}, func(t *api.Tour) { t.End = 535 }, api.OK},
		"back behind End":            {[]int{0, 1}, func(t *api.Tour) { t.End = 534 }, api.ErrLate},
		"done behind End":            {[]int{0, 1}, func(t *api.Tour) { t.End = 494 }, api.ErrLate},
		"a stop behind End":          {[]int{0, 2}, func(t *api.Tour) { t.End = 350 }, api.ErrLate},
		"as much fuel":               {[]int{0, 1}, func(t *api.Tour) { t.Tank = 95 }, api.OK},
		"less fuel":                  {[]int{0, 1}, func(t *api.Tour) { t.Tank = 94 }, api.ErrOver},
		"no fuel at all":             {[]int{0, 1}, func(t *api.Tour) { t.Tank = 0 }, api.ErrOver},
		"late, and less fuel":        {[]int{0, 1}, func(t *api.Tour) { t.End, t.Tank = 534, 0 }, api.ErrLate},
		"a stop late, and less fuel": {[]int{1}, func(t *api.Tour) { t.Start, t.Tank = 381, 0 }, api.ErrLate},
		"full, late, and less fuel":  {[]int{0, 1, 2}, func(t *api.Tour) { t.End, t.Tank = 301, 0 }, api.ErrFull},
		"none, with nothing":         {nil, func(t *api.Tour) { t.End, t.Tank, t.Bait = 300, 0, 0 }, api.OK},
		"many":                       {slices.Repeat([]int{2}, 100000), func(t *api.Tour) {}, api.ErrExists},
	} {
		tour := changedTour(c.change)
		stays, sum, e := haul.Run(tour, c.plan)
		if e != c.want || e != api.OK && (len(stays) > 0 || sum != api.Sum{}) {
			t.Errorf("%s: Run returns %v %v %d, not %d", name, stays, sum, e, c.want)
		}
		if late, e := haul.Late(tour, c.plan); e != c.want || e != api.OK && late != 0 {
			t.Errorf("%s: Late returns %d %d, not %d", name, late, e, c.want)
		}
		if proved, e := haul.Proved(tour, c.plan, nil); e != c.want || proved {
			t.Errorf("%s: Proved returns %t %d, not %d", name, proved, e, c.want)
		}
	}
}

// P3.1: legs go one way, work goes on behind midnight, and the way back is a leg too.
func TestRun(t *testing.T) {
	oneWay := changedEasy(2, func(t *api.Tour) {
		t.Legs = [][]api.Leg{
			{{}, {Minutes: 1, Fuel: 100}, {Minutes: 2, Fuel: 200}},
			{{Minutes: 3, Fuel: 300}, {}, {Minutes: 4, Fuel: 400}},
			{{Minutes: 5, Fuel: 500}, {Minutes: 6, Fuel: 600}, {}},
		}
		t.Tank, t.Price = 10000, 3
	})
	night := changedEasy(1, func(t *api.Tour) { t.Start, t.Stops[0].Work = 1, 1419 })
	dear := changedEasy(1, func(t *api.Tour) { t.Price = 1000 })
	for name, c := range map[string]struct {
		t     api.Tour
		plan  []int
		stays []api.Stay
		sum   api.Sum
		want  api.Errno
	}{
		"there":         {oneWay, []int{0, 1}, []api.Stay{{Arrive: 1, Begin: 1, Done: 11}, {Arrive: 15, Begin: 15, Done: 25}}, api.Sum{Back: 30, Fuel: 1002, Traps: 2, Earn: 200 - 3006}, api.OK},
		"the other way": {oneWay, []int{1, 0}, []api.Stay{{Arrive: 2, Begin: 2, Done: 12}, {Arrive: 18, Begin: 18, Done: 28}}, api.Sum{Back: 31, Fuel: 1102, Traps: 2, Earn: 200 - 3306}, api.OK},
		"one":           {oneWay, []int{1}, []api.Stay{{Arrive: 2, Begin: 2, Done: 12}}, api.Sum{Back: 17, Fuel: 701, Traps: 1, Earn: 100 - 2103}, api.OK},
		"none":          {oneWay, nil, nil, api.Sum{}, api.OK},
		"until night":   {night, []int{0}, []api.Stay{{Arrive: 11, Begin: 11, Done: 1430}}, api.Sum{Back: 1440, Fuel: 3, Traps: 1, Earn: 97}, api.OK},
		"dear fuel":     {dear, []int{0}, []api.Stay{{Arrive: 10, Begin: 10, Done: 20}}, api.Sum{Back: 30, Fuel: 3, Traps: 1, Earn: -2900}, api.OK},
		"no stops":      {emptyTour(), nil, nil, api.Sum{}, api.OK},
		"no such stop":  {emptyTour(), []int{0}, nil, api.Sum{}, api.ErrMissing},
	} {
		if stays, sum, e := haul.Run(c.t, c.plan); !slices.Equal(stays, c.stays) || sum != c.sum || e != c.want {
			t.Errorf("%s: Run returns %v %v %d, not %v %v %d", name, stays, sum, e, c.stays, c.sum, c.want)
		}
	}
}

// P3.5: what ends the minutes: the hours of a stop, the way back, and End itself, where the tour is no longer valid.
func TestLate(t *testing.T) {
	for name, c := range map[string]struct {
		plan   []int
		change func(t *api.Tour)
		want   int
	}{
		"none":                     {nil, func(t *api.Tour) {}, 300},
		"none, at End":             {nil, func(t *api.Tour) { t.End = 300 }, 0},
		"none, the whole day":      {nil, func(t *api.Tour) { t.Start, t.End = 0, 1440 }, 1440},
		"a wait":                   {[]int{1}, func(t *api.Tour) {}, 80},
		"a wait, and End":          {[]int{1}, func(t *api.Tour) { t.End = 480 }, 20},
		"not a minute":             {[]int{1}, func(t *api.Tour) { t.Start = 380 }, 0},
		"the second one":           {[]int{0, 1}, func(t *api.Tour) {}, 5},
		"the second one, late":     {[]int{0, 1}, func(t *api.Tour) { t.Stops[1].To = 1440 }, 65},
		"the first one":            {[]int{0, 1}, func(t *api.Tour) { t.Stops[1].To, t.Stops[0].To = 1440, 333 }, 3},
		"back at End":              {[]int{0}, func(t *api.Tour) { t.End = 420 }, 0},
		"a long wait":              {[]int{1}, func(t *api.Tour) { t.Stops[1].From = 420 }, 80},
		"as far as End at a place": {[]int{2}, func(t *api.Tour) { t.Stops[2] = api.Stop{To: 1440}; t.Legs = freeLegs(4) }, 300},
		"until midnight":           {[]int{2}, func(t *api.Tour) { t.Stops[2] = api.Stop{To: 1440}; t.Legs, t.End = freeLegs(4), 1440 }, 1140},
	} {
		if late, e := haul.Late(changedTour(c.change), c.plan); late != c.want || e != api.OK {
			t.Errorf("%s: Late returns %d %d, not %d", name, late, e, c.want)
		}
	}
}

// freeLegs returns legs between so many places that take nothing.
func freeLegs(places int) [][]api.Leg {
	legs := make([][]api.Leg, places)
	for place := range legs {
		legs[place] = make([]api.Leg, places)
	}
	return legs
}
