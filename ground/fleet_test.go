package ground_test

import (
	"slices"
	"testing"

	"homarus/api"
	"homarus/ground"
)

// exampleFleet is the fleet F of the chapter's examples.
func exampleFleet() api.Fleet {
	return api.Fleet{Licences: []api.Licence{
		{Gang: 0, Most: 1, Master: -1, Days: span(0, 100)},
		{Gang: 0, Most: 1, Master: 0, Days: span(0, 100)},
		{Gang: 2, Most: 2, Master: -1, Days: span(50, 60)},
	}, Tags: []int{0, 1, 2, 2}}
}

// largestFleet has as many licences and tags as there may be.
func largestFleet() api.Fleet {
	return api.Fleet{Licences: slices.Repeat([]api.Licence{{Most: 40, Master: -1, Days: span(0, 364)}}, 12), Tags: slices.Repeat([]int{11, 0}, 20)}
}

// P2.3: each error of a fleet, at both ends of each bound, and which one comes first (R1).
func TestCheckFleetFindsEachError(t *testing.T) {
	for name, c := range map[string]struct {
		change func(f *api.Fleet)
		want   api.Errno
	}{
		"as it is":                   {func(f *api.Fleet) {}, api.OK},
		"nothing":                    {func(f *api.Fleet) { *f = api.Fleet{} }, api.OK},
		"no tags":                    {func(f *api.Fleet) { f.Tags = nil }, api.OK},
		"as large as may be":         {func(f *api.Fleet) { *f = largestFleet() }, api.OK},
		"13 licences":                {func(f *api.Fleet) { *f = largestFleet(); f.Licences = append(f.Licences, f.Licences[0]) }, api.ErrFull},
		"13 that are none":           {func(f *api.Fleet) { f.Licences = slices.Repeat([]api.Licence{{Gang: -1}}, 13) }, api.ErrFull},
		"41 tags":                    {func(f *api.Fleet) { *f = largestFleet(); f.Tags = append(f.Tags, 0) }, api.ErrFull},
		"41 tags that are none":      {func(f *api.Fleet) { f.Tags = slices.Repeat([]int{-1}, 41) }, api.ErrFull},
		"no gang":                    {func(f *api.Fleet) { f.Licences[0].Gang = -1 }, api.ErrMissing},
		"gang 3 of 3":                {func(f *api.Fleet) { f.Licences[2].Gang = 3 }, api.ErrMissing},
		"no traps":                   {func(f *api.Fleet) { f.Licences[0].Most = 0 }, api.OK},
		"traps below 0":              {func(f *api.Fleet) { f.Licences[0].Most = -1 }, api.ErrRange},
		"40 traps":                   {func(f *api.Fleet) { f.Licences[2].Most = 40 }, api.OK},
		"41 traps":                   {func(f *api.Fleet) { f.Licences[2].Most = 41 }, api.ErrRange},
		"all days":                   {func(f *api.Fleet) { f.Licences[1].Days = span(0, 364) }, api.OK},
		"days below 0":               {func(f *api.Fleet) { f.Licences[1].Days = span(-1, 5) }, api.ErrRange},
		"days too great":             {func(f *api.Fleet) { f.Licences[1].Days = span(5, 365) }, api.ErrRange},
		"days both too great":        {func(f *api.Fleet) { f.Licences[1].Days = one(365) }, api.ErrRange},
		"days to below 0":            {func(f *api.Fleet) { f.Licences[1].Days = span(5, -1) }, api.ErrRange},
		"days backwards":             {func(f *api.Fleet) { f.Licences[1].Days = span(5, 4) }, api.ErrOrder},
		"master below -1":            {func(f *api.Fleet) { f.Licences[1].Master = -2 }, api.ErrMissing},
		"the own master":             {func(f *api.Fleet) { f.Licences[1].Master = 1 }, api.ErrMissing},
		"the first one's master":     {func(f *api.Fleet) { f.Licences[0].Master = 0 }, api.ErrMissing},
		"a master behind it":         {func(f *api.Fleet) { f.Licences[0].Master = 1 }, api.ErrMissing},
		"no such master":             {func(f *api.Fleet) { f.Licences[2].Master = 3 }, api.ErrMissing},
		"a master of a master":       {func(f *api.Fleet) { f.Licences[2].Master, f.Licences[2].Gang = 1, 0 }, api.ErrState},
		"two apprentices":            {func(f *api.Fleet) { f.Licences[2].Master, f.Licences[2].Gang = 0, 0 }, api.OK},
		"a master of another gang":   {func(f *api.Fleet) { f.Licences[2].Master = 0 }, api.ErrClash},
		"an apprentice as master":    {func(f *api.Fleet) { f.Licences[2].Master = 1 }, api.ErrState},
		"no licence of a tag":        {func(f *api.Fleet) { f.Tags[3] = -1 }, api.ErrMissing},
		"licence 3 of 3":             {func(f *api.Fleet) { f.Tags[0] = 3 }, api.ErrMissing},
		"tags without licences":      {func(f *api.Fleet) { f.Licences = nil }, api.ErrMissing},
		"gang before traps":          {func(f *api.Fleet) { f.Licences[1].Gang, f.Licences[1].Most = 3, 41 }, api.ErrMissing},
		"traps before days":          {func(f *api.Fleet) { f.Licences[1].Most, f.Licences[1].Days = -1, span(2, 1) }, api.ErrRange},
		"days before master":         {func(f *api.Fleet) { f.Licences[1].Days, f.Licences[1].Master = span(2, 1), 1 }, api.ErrOrder},
		"licence before next one":    {func(f *api.Fleet) { f.Licences[1].Master, f.Licences[2].Most = 1, 41 }, api.ErrMissing},
		"licences before tags":       {func(f *api.Fleet) { f.Licences[2].Most, f.Tags = 41, make([]int, 41) }, api.ErrRange},
		"error of the last licence":  {func(f *api.Fleet) { *f = largestFleet(); f.Licences[11].Most = 41 }, api.ErrRange},
		"error of the last tag":      {func(f *api.Fleet) { *f = largestFleet(); f.Tags[39] = 12 }, api.ErrMissing},
		"master 0 of the last":       {func(f *api.Fleet) { *f = largestFleet(); f.Licences[11].Master = 0 }, api.OK},
		"master just before the own": {func(f *api.Fleet) { *f = largestFleet(); f.Licences[11].Master = 10 }, api.OK},
	} {
		f := exampleFleet()
		c.change(&f)
		if e := ground.CheckFleet(exampleBay(), f); e != c.want {
			t.Errorf("%s: CheckFleet returns %d, not %d", name, e, c.want)
		}
		if c.want == api.OK {
			continue
		}
		// The fleet's error comes before those of reports, tags, days and papers.
		wrong := call{b: exampleBay(), f: f, l: make([]api.Report, 201), day: -1, tag: -1, paperText: string(make([]byte, 6001))}
		for _, function := range []string{"CheckFleet", "Book", "State", "Faults", "Write", "Read"} {
			if r := wrong.results()[function]; r.e != c.want {
				t.Errorf("%s: %s returns %d, not %d", name, function, r.e, c.want)
			}
		}
		if _, row, _ := ground.Read(exampleBay(), f, "x"); row != 0 {
			t.Errorf("%s: Read returns the row %d", name, row)
		}
	}
}
