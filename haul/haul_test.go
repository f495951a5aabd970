package haul_test

import (
	"slices"
	"strings"
	"testing"

	"homarus/api"
	"homarus/haul"
)

// exampleTour is the tour T of the chapter's examples.
func exampleTour() api.Tour {
	return api.Tour{Start: 300, End: 600, Tank: 200, Price: 5, Bait: 30, Stops: []api.Stop{
		{Traps: 10, Worth: 4000, Work: 60, Fuel: 10, From: 300, To: 600},
		{Traps: 20, Worth: 6000, Work: 80, Fuel: 20, From: 350, To: 420},
		{Traps: 10, Worth: 1000, Work: 30, Fuel: 5, From: 300, To: 600},
	}, Legs: [][]api.Leg{
		{{}, {Minutes: 30, Fuel: 20}, {Minutes: 40, Fuel: 30}, {Minutes: 20, Fuel: 10}},
		{{Minutes: 30, Fuel: 20}, {}, {Minutes: 25, Fuel: 15}, {Minutes: 30, Fuel: 20}},
		{{Minutes: 40, Fuel: 30}, {Minutes: 25, Fuel: 15}, {}, {Minutes: 50, Fuel: 40}},
		{{Minutes: 20, Fuel: 10}, {Minutes: 30, Fuel: 20}, {Minutes: 50, Fuel: 40}, {}},
	}}
}

// changedTour returns the tour T with a change.
func changedTour(change func(t *api.Tour)) api.Tour {
	t := exampleTour()
	change(&t)
	return t
}

// emptyTour is a tour without a stop.
func emptyTour() api.Tour { return api.Tour{Legs: [][]api.Leg{{{}}}} }

// easyTour has so many stops worth 100, which take 10 minutes, 1 trap and 1 unit of fuel each, and each leg takes 10 minutes and 1 unit of fuel; there is much of everything, and fuel costs 1.
func easyTour(stops int) api.Tour {
	t := api.Tour{End: 1440, Tank: 1000, Price: 1, Bait: 1000}
	t.Stops = slices.Repeat([]api.Stop{{Traps: 1, Worth: 100, Work: 10, Fuel: 1, To: 1440}}, stops)
	for from := range stops + 1 {
		row := slices.Repeat([]api.Leg{{Minutes: 10, Fuel: 1}}, stops+1)
		row[from] = api.Leg{}
		t.Legs = append(t.Legs, row)
	}
	return t
}

// changedEasy returns an easy tour with a change.
func changedEasy(stops int, change func(t *api.Tour)) api.Tour {
	t := easyTour(stops)
	change(&t)
	return t
}

// results are what the functions of the package return, by their names.
type results map[string]result

type result struct {
	values []any
	e      api.Errno
}

// call is arguments for all functions of the package.
type call struct {
	t     api.Tour
	plan  []int
	proof []api.Node
	text  string
}

// ofTour calls each function that has a tour as an argument.
func (c call) ofTour() results {
	all := results{}
	add := func(name string, e api.Errno, values ...any) { all[name] = result{values, e} }
	add("Check", haul.Check(c.t))
	stays, sum, e := haul.Run(c.t, c.plan)
	add("Run", e, stays, sum)
	plan, earn, e := haul.Best(c.t)
	add("Best", e, plan, earn)
	bound, e := haul.Bound(c.t, c.plan)
	add("Bound", e, bound)
	proof, e := haul.Prove(c.t)
	add("Prove", e, proof)
	proved, e := haul.Proved(c.t, c.plan, c.proof)
	add("Proved", e, proved)
	late, e := haul.Late(c.t, c.plan)
	add("Late", e, late)
	text, e := haul.Write(c.t)
	add("Write", e, text)
	return all
}

// results calls each function.
func (c call) results() results {
	all := c.ofTour()
	read, row, e := haul.Read(c.text)
	if e == api.ErrForm {
		row = 0 // not a zero value, but right
	}
	all["Read"] = result{[]any{read, row}, e}
	return all
}

// tourErrors are changes of the tour T, and the first error that it has then.
func tourErrors() map[string]struct {
	change func(t *api.Tour)
	want   api.Errno
} {
	return map[string]struct {
		change func(t *api.Tour)
		want   api.Errno
	}{
		"T":                          {func(t *api.Tour) {}, api.OK},
		"no stop":                    {func(t *api.Tour) { *t = emptyTour() }, api.OK},
		"nothing at all":             {func(t *api.Tour) { *t = api.Tour{} }, api.ErrForm},
		"8 stops":                    {func(t *api.Tour) { *t = easyTour(8) }, api.OK},
		"9 stops":                    {func(t *api.Tour) { *t = easyTour(9) }, api.ErrFull},
		"9 stops, few legs":          {func(t *api.Tour) { t.Stops = slices.Repeat(t.Stops, 3) }, api.ErrFull},
		"9 stops, one is wrong":      {func(t *api.Tour) { *t = easyTour(9); t.Stops[0].Traps = -1 }, api.ErrFull},
		"9 stops, Bait":              {func(t *api.Tour) { *t = easyTour(9); t.Bait = -1 }, api.ErrRange},
		"Start 0":                    {func(t *api.Tour) { t.Start = 0 }, api.OK},
		"Start -1":                   {func(t *api.Tour) { t.Start = -1 }, api.ErrRange},
		"Start 600":                  {func(t *api.Tour) { t.Start = 600 }, api.OK},
		"Start 601":                  {func(t *api.Tour) { t.Start = 601 }, api.ErrOrder},
		"Start 1440":                 {func(t *api.Tour) { t.Start, t.End = 1440, 1440 }, api.OK},
		"Start 1441":                 {func(t *api.Tour) { t.Start, t.End = 1441, 1441 }, api.ErrRange},
		"Start 1441, End 600":        {func(t *api.Tour) { t.Start = 1441 }, api.ErrRange},
		"End 299":                    {func(t *api.Tour) { t.End = 299 }, api.ErrOrder},
		"End 300":                    {func(t *api.Tour) { t.End = 300 }, api.OK},
		"End -1":                     {func(t *api.Tour) { t.End = -1 }, api.ErrRange},
		"End 1440":                   {func(t *api.Tour) { t.End = 1440 }, api.OK},
		"End 1441":                   {func(t *api.Tour) { t.End = 1441 }, api.ErrRange},
		"End 299, Tank -1":           {func(t *api.Tour) { t.End, t.Tank = 299, -1 }, api.ErrOrder},
		"Tank 0":                     {func(t *api.Tour) { t.Tank = 0 }, api.OK},
		"Tank -1":                    {func(t *api.Tour) { t.Tank = -1 }, api.ErrRange},
		"Tank 100000":                {func(t *api.Tour) { t.Tank = 100000 }, api.OK},
		"Tank 100001":                {func(t *api.Tour) { t.Tank = 100001 }, api.ErrRange},
		"Price 0":                    {func(t *api.Tour) { t.Price = 0 }, api.OK},
		"Price -1":                   {func(t *api.Tour) { t.Price = -1 }, api.ErrRange},
		"Price 1000":                 {func(t *api.Tour) { t.Price = 1000 }, api.OK},
		"Price 1001":                 {func(t *api.Tour) { t.Price = 1001 }, api.ErrRange},
		"Bait 0":                     {func(t *api.Tour) { t.Bait = 0 }, api.OK},
		"Bait -1":                    {func(t *api.Tour) { t.Bait = -1 }, api.ErrRange},
		"Bait 1000":                  {func(t *api.Tour) { t.Bait = 1000 }, api.OK},
		"Bait 1001":                  {func(t *api.Tour) { t.Bait = 1001 }, api.ErrRange},
		"Traps 0":                    {func(t *api.Tour) { t.Stops[0].Traps = 0 }, api.OK},
		"Traps -1":                   {func(t *api.Tour) { t.Stops[0].Traps = -1 }, api.ErrRange},
		"Traps 1000":                 {func(t *api.Tour) { t.Stops[2].Traps = 1000 }, api.OK},
		"Traps 1001":                 {func(t *api.Tour) { t.Stops[2].Traps = 1001 }, api.ErrRange},
		"Worth 0":                    {func(t *api.Tour) { t.Stops[0].Worth = 0 }, api.OK},
		"Worth -1":                   {func(t *api.Tour) { t.Stops[0].Worth = -1 }, api.ErrRange},
		"Worth 1000000":              {func(t *api.Tour) { t.Stops[2].Worth = 1000000 }, api.OK},
		"Worth 1000001":              {func(t *api.Tour) { t.Stops[2].Worth = 1000001 }, api.ErrRange},
		"Work 0":                     {func(t *api.Tour) { t.Stops[0].Work = 0 }, api.OK},
		"Work -1":                    {func(t *api.Tour) { t.Stops[0].Work = -1 }, api.ErrRange},
		"Work 1440":                  {func(t *api.Tour) { t.Stops[2].Work = 1440 }, api.OK},
		"Work 1441":                  {func(t *api.Tour) { t.Stops[2].Work = 1441 }, api.ErrRange},
		"Fuel 0":                     {func(t *api.Tour) { t.Stops[0].Fuel = 0 }, api.OK},
		"Fuel -1":                    {func(t *api.Tour) { t.Stops[0].Fuel = -1 }, api.ErrRange},
		"Fuel 100000":                {func(t *api.Tour) { t.Stops[2].Fuel = 100000 }, api.OK},
		"Fuel 100001":                {func(t *api.Tour) { t.Stops[2].Fuel = 100001 }, api.ErrRange},
		"From 0":                     {func(t *api.Tour) { t.Stops[1].From = 0 }, api.OK},
		"From -1":                    {func(t *api.Tour) { t.Stops[1].From = -1 }, api.ErrRange},
		"From 420":                   {func(t *api.Tour) { t.Stops[1].From = 420 }, api.OK},
		"From 421":                   {func(t *api.Tour) { t.Stops[1].From = 421 }, api.ErrOrder},
		"From 1440":                  {func(t *api.Tour) { t.Stops[1].From, t.Stops[1].To = 1440, 1440 }, api.OK},
		"From 1441":                  {func(t *api.Tour) { t.Stops[1].From = 1441 }, api.ErrRange},
		"To 349":                     {func(t *api.Tour) { t.Stops[1].To = 349 }, api.ErrOrder},
		"To 0":                       {func(t *api.Tour) { t.Stops[1].From, t.Stops[1].To = 0, 0 }, api.OK},
		"To -1":                      {func(t *api.Tour) { t.Stops[1].To = -1 }, api.ErrRange},
		"To 1440":                    {func(t *api.Tour) { t.Stops[1].To = 1440 }, api.OK},
		"To 1441":                    {func(t *api.Tour) { t.Stops[1].To = 1441 }, api.ErrRange},
		"From behind To, Traps":      {func(t *api.Tour) { t.Stops[1].From, t.Stops[1].Traps = 421, 1001 }, api.ErrRange},
		"From behind To, then Traps": {func(t *api.Tour) { t.Stops[0].From, t.Stops[1].Traps = 601, 1001 }, api.ErrOrder},
		"Traps, then From behind To": {func(t *api.Tour) { t.Stops[0].Traps, t.Stops[1].From = 1001, 421 }, api.ErrRange},
		"a stop and the legs":        {func(t *api.Tour) { t.Stops[2].From, t.Legs = 601, nil }, api.ErrOrder},
		"a stop less":                {func(t *api.Tour) { t.Stops = t.Stops[:2] }, api.ErrForm},
		"a stop more":                {func(t *api.Tour) { t.Stops = append(t.Stops, api.Stop{}) }, api.ErrForm},
		"no legs":                    {func(t *api.Tour) { t.Legs = nil }, api.ErrForm},
		"a row less":                 {func(t *api.Tour) { t.Legs = t.Legs[:3] }, api.ErrForm},
		"a row more":                 {func(t *api.Tour) { t.Legs = append(t.Legs, t.Legs[0]) }, api.ErrForm},
		"a row less, and a leg":      {func(t *api.Tour) { t.Legs = t.Legs[:3]; t.Legs[0][1].Fuel = -1 }, api.ErrForm},
		"a leg less":                 {func(t *api.Tour) { t.Legs[3] = t.Legs[3][:3] }, api.ErrForm},
		"a leg more":                 {func(t *api.Tour) { t.Legs[0] = append(t.Legs[0], api.Leg{}) }, api.ErrForm},
		"an empty row":               {func(t *api.Tour) { t.Legs[1] = nil }, api.ErrForm},
		"a short row, and its leg":   {func(t *api.Tour) { t.Legs[1] = t.Legs[1][:3]; t.Legs[1][0].Fuel = -1 }, api.ErrForm},
		"a leg, and a short row":     {func(t *api.Tour) { t.Legs[0][3].Fuel = -1; t.Legs[1] = t.Legs[1][:3] }, api.ErrRange},
		"a short row, and a leg":     {func(t *api.Tour) { t.Legs[0] = t.Legs[0][:3]; t.Legs[1][0].Fuel = -1 }, api.ErrForm},
		"Minutes 0":                  {func(t *api.Tour) { t.Legs[0][3].Minutes = 0 }, api.OK},
		"Minutes -1":                 {func(t *api.Tour) { t.Legs[0][3].Minutes = -1 }, api.ErrRange},
		"Minutes 1440":               {func(t *api.Tour) { t.Legs[3][2].Minutes = 1440 }, api.OK},
		"Minutes 1441":               {func(t *api.Tour) { t.Legs[3][2].Minutes = 1441 }, api.ErrRange},
		"leg Fuel 0":                 {func(t *api.Tour) { t.Legs[0][3].Fuel = 0 }, api.OK},
		"leg Fuel -1":                {func(t *api.Tour) { t.Legs[0][3].Fuel = -1 }, api.ErrRange},
		"leg Fuel 100000":            {func(t *api.Tour) { t.Legs[3][2].Fuel = 100000 }, api.OK},
		"leg Fuel 100001":            {func(t *api.Tour) { t.Legs[3][2].Fuel = 100001 }, api.ErrRange},
		"minutes to itself":          {func(t *api.Tour) { t.Legs[0][0].Minutes = 1 }, api.ErrForm},
		"fuel to itself":             {func(t *api.Tour) { t.Legs[3][3].Fuel = 1 }, api.ErrForm},
		"-1 to itself":               {func(t *api.Tour) { t.Legs[2][2].Minutes = -1 }, api.ErrRange},
		"100001 to itself":           {func(t *api.Tour) { t.Legs[2][2].Fuel = 100001 }, api.ErrRange},
		"to itself, then a leg":      {func(t *api.Tour) { t.Legs[1][1].Fuel, t.Legs[1][2].Fuel = 1, -1 }, api.ErrForm},
		"a leg, then to itself":      {func(t *api.Tour) { t.Legs[1][0].Fuel, t.Legs[1][1].Fuel = -1, 1 }, api.ErrRange},
	}
}

// P3.1: each error of a tour, at both ends of each bound, and which one comes first (R1); P3.1 to P3.6: all functions return it before any other one.
func TestTourErrors(t *testing.T) {
	for name, c := range tourErrors() {
		tour := changedTour(c.change)
		if e := haul.Check(tour); e != c.want {
			t.Errorf("%s: Check returns %d, not %d", name, e, c.want)
		}
		for function, r := range (call{t: tour, plan: []int{0, 99, 0}, proof: make([]api.Node, 3)}).ofTour() {
			if c.want != api.OK && r.e != c.want {
				t.Errorf("%s: %s returns %d, not %d", name, function, r.e, c.want)
			}
		}
		text := trueChart(tour)
		if strings.Contains(text, "-") {
			continue // no chart has such numbers
		}
		if read, row, e := haul.Read(text); e != c.want || row != 0 || e != api.OK && !isZero(read) {
			t.Errorf("%s: Read returns %v %d %d, not %d", name, read, row, e, c.want)
		}
	}
}

// The examples of the chapter.
func TestExamples(t *testing.T) {
	tour := exampleTour()
	for name, c := range map[string]struct {
		plan  []int
		stays []api.Stay
		sum   api.Sum
		want  api.Errno
	}{
		"0 1":   {[]int{0, 1}, []api.Stay{{Arrive: 330, Begin: 330, Done: 390}, {Arrive: 415, Begin: 415, Done: 495}}, api.Sum{Back: 535, Fuel: 95, Traps: 30, Earn: 9525}, api.OK},
		"1 0":   {[]int{1, 0}, []api.Stay{{Arrive: 340, Begin: 350, Done: 430}, {Arrive: 455, Begin: 455, Done: 515}}, api.Sum{Back: 545, Fuel: 95, Traps: 30, Earn: 9525}, api.OK},
		"none":  {nil, nil, api.Sum{Back: 300}, api.OK},
		"0 1 2": {[]int{0, 1, 2}, nil, api.Sum{}, api.ErrFull},
		"2 0 1": {[]int{2, 0, 1}, nil, api.Sum{}, api.ErrFull},
		"0 0":   {[]int{0, 0}, nil, api.Sum{}, api.ErrExists},
		"3":     {[]int{3}, nil, api.Sum{}, api.ErrMissing},
		"0 2 1": {[]int{0, 2, 1}, nil, api.Sum{}, api.ErrFull},
	} {
		if stays, sum, e := haul.Run(tour, c.plan); !slices.Equal(stays, c.stays) || sum != c.sum || e != c.want {
			t.Errorf("Run of %s returns %v %v %d", name, stays, sum, e)
		}
	}
	if plan, earn, e := haul.Best(tour); !slices.Equal(plan, []int{0, 1}) || earn != 9525 || e != api.OK {
		t.Error("Best returns", plan, earn, e)
	}
	if plan, earn, e := haul.Best(changedTour(func(t *api.Tour) { t.Bait = 20 })); !slices.Equal(plan, []int{1}) || earn != 5600 || e != api.OK {
		t.Error("with Bait 20 Best returns", plan, earn, e)
	}
	for _, c := range []struct {
		plan []int
		want int
	}{{nil, 10625}, {[]int{0}, 10550}, {[]int{2}, 10575}, {[]int{0, 1}, 9625}} {
		if bound, e := haul.Bound(tour, c.plan); bound != c.want || e != api.OK {
			t.Errorf("Bound of %v returns %d %d, not %d", c.plan, bound, e, c.want)
		}
	}
	proof, e := haul.Prove(tour)
	if e != api.OK || len(proof) != 10 || !slices.Equal(proof[9].Plan, []int{2, 1}) || proof[9].Bound != 6575 {
		t.Fatal("Prove returns", proof, e)
	}
	for name, c := range map[string]struct {
		plan  []int
		proof []api.Node
		want  bool
	}{"0 1": {[]int{0, 1}, proof, true}, "1 0": {[]int{1, 0}, proof, true}, "1": {[]int{1}, proof, false}, "a node less": {[]int{0, 1}, proof[:9], false}} {
		if proved, e := haul.Proved(tour, c.plan, c.proof); proved != c.want || e != api.OK {
			t.Errorf("Proved of %s returns %t %d", name, proved, e)
		}
	}
	for _, c := range []struct {
		plan []int
		want int
	}{{[]int{0, 1}, 5}, {[]int{1, 0}, 65}, {nil, 300}} {
		if late, e := haul.Late(tour, c.plan); late != c.want || e != api.OK {
			t.Errorf("Late of %v returns %d %d, not %d", c.plan, late, e, c.want)
		}
	}
	text, e := haul.Write(tour)
	rows := strings.Split(text, "\n")
	if e != api.OK || len(rows) != 10 || rows[0] != "day 300 600 200 5 30" || rows[1] != "stop 10 4000 60 10 300 600" || rows[4] != "legs 0 0 30 20 40 30 20 10" || rows[8] != "end 3" || rows[9] != "" {
		t.Errorf("Write returns %q %d", text, e)
	}
}
