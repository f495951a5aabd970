package ground_test

import (
	"slices"
	"testing"

	"homarus/api"
	"homarus/ground"
)

func fault(kind, tag, licence int) api.Fault {
	return api.Fault{Kind: kind, Tag: tag, Licence: licence}
}

// P2.4: the faults of the examples.
func TestFaultsOfExample(t *testing.T) {
	for day, want := range map[int][]api.Fault{
		0: nil, 12: nil, 13: nil, 36499: {fault(api.FaultGhost, 2, 2)},
		55: {fault(api.FaultPlace, 2, 2)}, 56: {fault(api.FaultGhost, 2, 2)},
	} {
		if l, e := ground.Faults(exampleBay(), exampleFleet(), exampleReports(), day); e != api.OK || !slices.Equal(l, want) {
			t.Errorf("on the day %d Faults returns %v %d, not %v", day, l, e, want)
		}
	}
	for _, day := range []int{-1, 36500} {
		if l, e := ground.Faults(exampleBay(), exampleFleet(), exampleReports(), day); e != api.ErrRange || len(l) > 0 {
			t.Errorf("on the day %d Faults returns %v %d", day, l, e)
		}
	}
}

// P2.4: each fault of a trap, its ends, and their order. The cells 0 of B are those of the gang 0, the cells 9 those of the gang 2.
func TestFaultsOfTraps(t *testing.T) {
	const season, place, ghost = api.FaultSeason, api.FaultPlace, api.FaultGhost
	for name, c := range map[string]struct {
		l    []api.Report
		day  int
		want []api.Fault
	}{
		"before the season":        {[]api.Report{set(2, 40, 9, 0)}, 49, []api.Fault{fault(season, 2, 2)}},
		"on its first day":         {[]api.Report{set(2, 40, 9, 0)}, 50, nil},
		"on its last day":          {[]api.Report{set(2, 40, 9, 0)}, 60, nil},
		"behind the season":        {[]api.Report{set(2, 40, 9, 0)}, 61, []api.Fault{fault(season, 2, 2)}},
		"the season a year later":  {[]api.Report{set(2, 40, 9, 0)}, 365 + 60, nil},
		"and behind it":            {[]api.Report{set(2, 40, 9, 0)}, 365 + 61, []api.Fault{fault(season, 2, 2)}},
		"at home":                  {[]api.Report{set(2, 40, 9, 0), hauled(2, 41)}, 61, nil},
		"in the cell of another":   {[]api.Report{set(3, 50, 6, 1)}, 50, []api.Fault{fault(place, 3, 2)}},
		"by custom its own":        {[]api.Report{set(0, 9, 6, 0)}, 10, nil},
		"before the custom":        {[]api.Report{set(0, 9, 6, 0)}, 9, []api.Fault{fault(place, 0, 0)}},
		"behind the custom":        {[]api.Report{set(0, 9, 6, 0)}, 20, []api.Fault{fault(place, 0, 0)}},
		"by custom a year later":   {[]api.Report{set(0, 9, 6, 0)}, 365 + 19, nil},
		"seen where it was not":    {[]api.Report{set(0, 5, 0, 0), seen(0, 6, 9, 0)}, 6, []api.Fault{fault(place, 0, 0)}},
		"season before place":      {[]api.Report{set(0, 101, 9, 0)}, 101, []api.Fault{fault(season, 0, 0), fault(place, 0, 0)}},
		"a ghost":                  {[]api.Report{set(0, 5, 0, 0), cut(0, 6)}, 6, []api.Fault{fault(ghost, 0, 0)}},
		"a ghost, and not more":    {[]api.Report{set(0, 101, 9, 0), cut(0, 101)}, 101, []api.Fault{fault(ghost, 0, 0)}},
		"a ghost until hauled":     {[]api.Report{set(0, 5, 0, 0), cut(0, 6), hauled(0, 9)}, 8, []api.Fault{fault(ghost, 0, 0)}},
		"a ghost that was hauled":  {[]api.Report{set(0, 5, 0, 0), cut(0, 6), hauled(0, 9)}, 9, nil},
		"by the tags":              {[]api.Report{set(3, 50, 0, 0), set(1, 50, 9, 0), set(2, 5, 9, 0), cut(2, 6)}, 50, []api.Fault{fault(place, 1, 1), fault(ghost, 2, 2), fault(place, 3, 2)}},
		"up to the day alone":      {[]api.Report{set(0, 50, 9, 0)}, 49, nil},
		"also a ghost of the past": {[]api.Report{set(1, 0, 0, 0), cut(1, 0)}, 36499, []api.Fault{fault(ghost, 1, 1)}},
	} {
		if l, e := ground.Faults(exampleBay(), exampleFleet(), c.l, c.day); e != api.OK || !slices.Equal(l, c.want) {
			t.Errorf("%s: Faults returns %v %d, not %v", name, l, e, c.want)
		}
	}
}

// P2.4: how many traps are out, of a licence alone, and of a master with those of the apprentices.
func TestFaultsOfMany(t *testing.T) {
	days := span(0, 364)
	f := api.Fleet{Licences: []api.Licence{
		{Most: 3, Master: -1, Days: days},
		{Most: 1, Master: 0, Days: days},
		{Most: 2, Master: 0, Days: days},
		{Most: 0, Master: -1, Days: days},
		{Most: 2, Master: -1, Days: days},
	}, Tags: []int{0, 0, 0, 0, 1, 1, 2, 2, 2, 3, 4, 4, 4}}
	many := func(licence int) api.Fault { return fault(api.FaultMany, -1, licence) }
	for name, c := range map[string]struct {
		out, ghosts []int
		want        []api.Fault
	}{
		"none":                           {nil, nil, nil},
		"as many as may be":              {[]int{0, 1, 2, 10, 11}, nil, nil},
		"one more":                       {[]int{0, 1, 2, 3}, nil, []api.Fault{many(0)}},
		"one more of another":            {[]int{10, 11, 12}, nil, []api.Fault{many(4)}},
		"of the apprentice":              {[]int{4, 5}, nil, []api.Fault{many(1)}},
		"with an apprentice":             {[]int{0, 1, 4}, nil, nil},
		"with an apprentice, too many":   {[]int{0, 1, 2, 4}, nil, []api.Fault{many(0)}},
		"of two apprentices":             {[]int{4, 6, 7}, nil, nil},
		"of two apprentices, too many":   {[]int{0, 4, 6, 7}, nil, []api.Fault{many(0)}},
		"the master's own count for one": {[]int{0, 1, 2, 6}, nil, []api.Fault{many(0)}},
		"both":                           {[]int{4, 5, 6, 7}, nil, []api.Fault{many(0), many(1)}},
		"all":                            {[]int{0, 1, 2, 3, 4, 5, 6, 7, 8, 9, 10, 11, 12}, nil, []api.Fault{many(0), many(1), many(2), many(3), many(4)}},
		"no trap may be out":             {[]int{9}, nil, []api.Fault{many(3)}},
		"ghosts do not count":            {[]int{0, 1, 2}, []int{3}, []api.Fault{fault(api.FaultGhost, 3, 0)}},
		"nor ghosts of apprentices":      {[]int{0, 1, 4}, []int{5, 6}, []api.Fault{fault(api.FaultGhost, 5, 1), fault(api.FaultGhost, 6, 2)}},
		"behind those of traps":          {[]int{4, 5, 9}, []int{12}, []api.Fault{fault(api.FaultGhost, 12, 4), many(1), many(3)}},
	} {
		var l []api.Report
		for _, tag := range append(slices.Clone(c.out), c.ghosts...) {
			l = append(l, set(tag, 3, 0, 0))
		}
		for _, tag := range c.ghosts {
			l = append(l, cut(tag, 4))
		}
		if x, e := ground.Faults(exampleBay(), f, l, 5); e != api.OK || !slices.Equal(x, c.want) {
			t.Errorf("%s: Faults returns %v %d, not %v", name, x, e, c.want)
		}
	}
}
