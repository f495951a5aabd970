package ground_test

import (
	"slices"
	"testing"

	"homarus/api"
	"homarus/ground"
)

func hauled(tag, day int) api.Report {
	return api.Report{Tag: tag, Day: day, Kind: api.ReportHaul}
}

func set(tag, day, x, row int) api.Report {
	return api.Report{Tag: tag, Day: day, Kind: api.ReportSet, X: x, Row: row}
}

func seen(tag, day, x, row int) api.Report {
	return api.Report{Tag: tag, Day: day, Kind: api.ReportSeen, X: x, Row: row}
}

func cut(tag, day int) api.Report {
	return api.Report{Tag: tag, Day: day, Kind: api.ReportCut}
}

// exampleReports are the reports L of the chapter's examples.
func exampleReports() []api.Report {
	return []api.Report{set(0, 12, 6, 0), set(2, 55, 6, 1), seen(2, 56, 8, 1), cut(2, 56), hauled(0, 13)}
}

// P2.3: each error of reports, at both ends of each bound, and which one comes first (R1).
func TestReportsErrors(t *testing.T) {
	for name, c := range map[string]struct {
		l    []api.Report
		want api.Errno
	}{
		"none":                      {nil, api.OK},
		"example":                   {exampleReports(), api.OK},
		"200 reports":               {slices.Repeat(exampleReports(), 40), api.OK},
		"201 equal reports":         {slices.Repeat([]api.Report{cut(0, 0)}, 201), api.ErrFull},
		"201 wrong ones":            {slices.Repeat([]api.Report{cut(-1, 0)}, 201), api.ErrFull},
		"tag below 0":               {[]api.Report{cut(-1, 0)}, api.ErrMissing},
		"the last tag":              {[]api.Report{cut(3, 0)}, api.OK},
		"no such tag":               {[]api.Report{cut(4, 0)}, api.ErrMissing},
		"day below 0":               {[]api.Report{cut(0, -1)}, api.ErrRange},
		"the last day":              {[]api.Report{cut(0, 36499)}, api.OK},
		"day behind it":             {[]api.Report{cut(0, 36500)}, api.ErrRange},
		"kind 0":                    {[]api.Report{{Kind: 0}}, api.ErrKind},
		"kind -1":                   {[]api.Report{{Kind: -1}}, api.ErrKind},
		"kind 5":                    {[]api.Report{{Kind: 5}}, api.ErrKind},
		"kinds 1 to 4":              {[]api.Report{{Kind: 1}, {Kind: 2}, {Kind: 3}, {Kind: 4}}, api.OK},
		"set at the ends":           {[]api.Report{set(0, 0, 0, 0), set(0, 1, 9, 1)}, api.OK},
		"set left of the bay":       {[]api.Report{set(0, 0, -1, 0)}, api.ErrRange},
		"set right of the bay":      {[]api.Report{set(0, 0, 10, 0)}, api.ErrRange},
		"set above the bay":         {[]api.Report{set(0, 0, 0, -1)}, api.ErrRange},
		"set below the bay":         {[]api.Report{set(0, 0, 0, 2)}, api.ErrRange},
		"seen at the ends":          {[]api.Report{seen(0, 0, 0, 0), seen(0, 1, 9, 1)}, api.OK},
		"seen left of the bay":      {[]api.Report{seen(0, 0, -1, 0)}, api.ErrRange},
		"seen right of the bay":     {[]api.Report{seen(0, 0, 10, 0)}, api.ErrRange},
		"seen above the bay":        {[]api.Report{seen(0, 0, 0, -1)}, api.ErrRange},
		"seen below the bay":        {[]api.Report{seen(0, 0, 0, 2)}, api.ErrRange},
		"hauled in a column":        {[]api.Report{{Kind: api.ReportHaul, X: 1}}, api.ErrForm},
		"hauled in a row":           {[]api.Report{{Kind: api.ReportHaul, Row: 1}}, api.ErrForm},
		"hauled out of the bay":     {[]api.Report{{Kind: api.ReportHaul, X: -1}}, api.ErrForm},
		"cut in a column":           {[]api.Report{{Kind: api.ReportCut, X: 1}}, api.ErrForm},
		"cut in a row":              {[]api.Report{{Kind: api.ReportCut, Row: -1}}, api.ErrForm},
		"tag before day":            {[]api.Report{{Tag: 4, Day: -1, Kind: 5}}, api.ErrMissing},
		"day before kind":           {[]api.Report{{Day: -1, Kind: 5}}, api.ErrRange},
		"kind before place":         {[]api.Report{{Kind: 5, X: -1}}, api.ErrKind},
		"report before next one":    {[]api.Report{{Kind: 5}, {Tag: 4, Kind: 1}}, api.ErrKind},
		"set twice":                 {[]api.Report{set(0, 5, 1, 1), set(0, 5, 1, 1)}, api.OK},
		"set in two columns":        {[]api.Report{set(0, 5, 1, 1), set(0, 5, 2, 1)}, api.ErrClash},
		"set in two rows":           {[]api.Report{set(0, 5, 1, 1), set(0, 5, 1, 0)}, api.ErrClash},
		"seen twice":                {[]api.Report{seen(0, 5, 1, 1), seen(0, 5, 1, 1)}, api.OK},
		"seen in two columns":       {[]api.Report{seen(0, 5, 1, 1), seen(0, 5, 2, 1)}, api.ErrClash},
		"seen in two rows":          {[]api.Report{seen(0, 5, 1, 1), seen(0, 5, 1, 0)}, api.ErrClash},
		"the third is unlike":       {[]api.Report{set(0, 5, 1, 1), set(0, 5, 1, 1), cut(0, 5), set(0, 5, 0, 0)}, api.ErrClash},
		"set here, seen there":      {[]api.Report{set(0, 5, 1, 1), seen(0, 5, 2, 0)}, api.OK},
		"set on two days":           {[]api.Report{set(0, 5, 1, 1), set(0, 6, 2, 0)}, api.OK},
		"two traps":                 {[]api.Report{set(0, 5, 1, 1), set(1, 5, 2, 0)}, api.OK},
		"seen on two days":          {[]api.Report{seen(0, 5, 1, 1), seen(0, 370, 2, 0)}, api.OK},
		"clash behind others":       {[]api.Report{set(0, 5, 1, 1), set(0, 5, 2, 1), cut(4, 0)}, api.ErrMissing},
		"clash behind the last one": {append(slices.Repeat([]api.Report{set(0, 5, 1, 1)}, 198), set(0, 5, 2, 1), set(0, 0, 0, 2)), api.ErrRange},
	} {
		// The reports' error comes before those of the tag and the day.
		wrong := call{b: exampleBay(), f: exampleFleet(), l: c.l, tag: 4, day: -1}.results()
		want := map[string]api.Errno{"Book": c.want, "Write": c.want, "State": c.want, "Faults": c.want}
		if c.want == api.OK {
			want["State"], want["Faults"] = api.ErrMissing, api.ErrRange
		}
		for function, e := range want {
			if r := wrong[function]; r.e != e {
				t.Errorf("%s: %s returns %d, not %d", name, function, r.e, e)
			}
		}
	}
}

// P2.3: the book has each report once, by the tags, then the days, then the kinds.
func TestBook(t *testing.T) {
	for name, c := range map[string]struct{ l, want []api.Report }{
		"none":      {nil, nil},
		"example":   {exampleReports(), []api.Report{set(0, 12, 6, 0), hauled(0, 13), set(2, 55, 6, 1), seen(2, 56, 8, 1), cut(2, 56)}},
		"once":      {[]api.Report{cut(0, 0), cut(0, 0), set(1, 1, 1, 1), cut(0, 0), set(1, 1, 1, 1)}, []api.Report{cut(0, 0), set(1, 1, 1, 1)}},
		"by tags":   {[]api.Report{hauled(3, 0), hauled(2, 1), hauled(1, 2), hauled(0, 3)}, []api.Report{hauled(0, 3), hauled(1, 2), hauled(2, 1), hauled(3, 0)}},
		"by days":   {[]api.Report{hauled(1, 100), set(1, 20, 0, 0), seen(1, 3, 9, 1), cut(1, 0)}, []api.Report{cut(1, 0), seen(1, 3, 9, 1), set(1, 20, 0, 0), hauled(1, 100)}},
		"by kinds":  {[]api.Report{cut(1, 5), seen(1, 5, 0, 0), set(1, 5, 9, 1), hauled(1, 5)}, []api.Report{hauled(1, 5), set(1, 5, 9, 1), seen(1, 5, 0, 0), cut(1, 5)}},
		"not by X":  {[]api.Report{set(1, 5, 9, 1), seen(1, 5, 0, 0), set(1, 4, 9, 1)}, []api.Report{set(1, 4, 9, 1), set(1, 5, 9, 1), seen(1, 5, 0, 0)}},
		"all equal": {slices.Repeat([]api.Report{seen(3, 36499, 9, 1)}, 200), []api.Report{seen(3, 36499, 9, 1)}},
	} {
		if l, e := ground.Book(exampleBay(), exampleFleet(), c.l); e != api.OK || !slices.Equal(l, c.want) {
			t.Errorf("%s: Book returns %v %d, not %v", name, l, e, c.want)
		}
	}
}

// P2.3: the state of a trap after each kind of report, in each state, where it is, and since when.
func TestState(t *testing.T) {
	const home, out, ghost = api.TrapHome, api.TrapOut, api.TrapGhost
	isOut, isGhost := set(0, 3, 2, 1), cut(0, 4)
	for name, c := range map[string]struct {
		l    []api.Report
		day  int
		want api.Spot
	}{
		"at first":                {nil, 9, api.Spot{State: home}},
		"at home, hauled":         {[]api.Report{hauled(0, 5)}, 9, api.Spot{State: home}},
		"at home, set":            {[]api.Report{set(0, 5, 7, 0)}, 9, api.Spot{State: out, X: 7, Since: 5}},
		"at home, seen":           {[]api.Report{seen(0, 5, 7, 1)}, 9, api.Spot{State: out, X: 7, Row: 1, Since: 5}},
		"at home, cut":            {[]api.Report{cut(0, 5)}, 9, api.Spot{State: home}},
		"out, hauled":             {[]api.Report{isOut, hauled(0, 5)}, 9, api.Spot{State: home, Since: 5}},
		"out, set":                {[]api.Report{isOut, set(0, 5, 7, 0)}, 9, api.Spot{State: out, X: 7, Since: 3}},
		"out, seen":               {[]api.Report{isOut, seen(0, 5, 7, 0)}, 9, api.Spot{State: out, X: 7, Since: 3}},
		"out, cut":                {[]api.Report{isOut, cut(0, 5)}, 9, api.Spot{State: ghost, X: 2, Row: 1, Since: 5}},
		"ghost, hauled":           {[]api.Report{isOut, isGhost, hauled(0, 5)}, 9, api.Spot{State: home, Since: 5}},
		"ghost, set":              {[]api.Report{isOut, isGhost, set(0, 5, 7, 0)}, 9, api.Spot{State: out, X: 7, Since: 5}},
		"ghost, seen":             {[]api.Report{isOut, isGhost, seen(0, 5, 7, 0)}, 9, api.Spot{State: ghost, X: 7, Since: 4}},
		"ghost, cut":              {[]api.Report{isOut, isGhost, cut(0, 5)}, 9, api.Spot{State: ghost, X: 2, Row: 1, Since: 4}},
		"hauled twice":            {[]api.Report{isOut, hauled(0, 5), hauled(0, 7)}, 9, api.Spot{State: home, Since: 5}},
		"hauled and set again":    {[]api.Report{isOut, set(0, 5, 7, 0), hauled(0, 5)}, 9, api.Spot{State: out, X: 7, Since: 5}},
		"set and cut at once":     {[]api.Report{cut(0, 5), set(0, 5, 7, 0)}, 9, api.Spot{State: ghost, X: 7, Since: 5}},
		"set and seen at once":    {[]api.Report{seen(0, 5, 1, 1), set(0, 5, 7, 0)}, 9, api.Spot{State: out, X: 1, Row: 1, Since: 5}},
		"ghost, set, cut at once": {[]api.Report{isOut, isGhost, cut(0, 5), set(0, 5, 7, 0)}, 9, api.Spot{State: ghost, X: 7, Since: 5}},
		"all at once":             {[]api.Report{cut(0, 3), seen(0, 3, 1, 0), set(0, 3, 2, 1), hauled(0, 3)}, 3, api.Spot{State: ghost, X: 1, Since: 3}},
		"on the day":              {[]api.Report{set(0, 5, 7, 1)}, 5, api.Spot{State: out, X: 7, Row: 1, Since: 5}},
		"on the day before":       {[]api.Report{set(0, 5, 7, 1)}, 4, api.Spot{State: home}},
		"of another trap":         {[]api.Report{set(1, 5, 7, 1), isOut, hauled(2, 5)}, 9, api.Spot{State: out, X: 2, Row: 1, Since: 3}},
		"out on the day 0":        {[]api.Report{set(0, 0, 7, 1)}, 0, api.Spot{State: out, X: 7, Row: 1}},
		"years later":             {[]api.Report{set(0, 0, 7, 1), cut(0, 36499)}, 36499, api.Spot{State: ghost, X: 7, Row: 1, Since: 36499}},
		"years, but a day less":   {[]api.Report{set(0, 0, 7, 1), cut(0, 36499)}, 36498, api.Spot{State: out, X: 7, Row: 1}},
		"reports that come late":  {[]api.Report{hauled(0, 8), set(0, 6, 1, 0), cut(0, 4), isOut}, 7, api.Spot{State: out, X: 1, Since: 6}},
		"reports that come twice": {[]api.Report{isOut, hauled(0, 5), isOut, hauled(0, 5)}, 9, api.Spot{State: home, Since: 5}},
	} {
		if s, e := ground.State(exampleBay(), exampleFleet(), c.l, 0, c.day); s != c.want || e != api.OK {
			t.Errorf("%s: State returns %v %d, not %v", name, s, e, c.want)
		}
	}
	for _, c := range []struct {
		tag, day int
		want     api.Spot
	}{
		{0, 11, api.Spot{State: home}}, {0, 12, api.Spot{State: out, X: 6, Since: 12}}, {0, 13, api.Spot{State: home, Since: 13}}, {2, 55, api.Spot{State: out, X: 6, Row: 1, Since: 55}},
		{2, 56, api.Spot{State: ghost, X: 8, Row: 1, Since: 56}}, {2, 90, api.Spot{State: ghost, X: 8, Row: 1, Since: 56}}, {1, 90, api.Spot{State: home}}, {3, 36499, api.Spot{State: home}},
	} {
		if s, e := ground.State(exampleBay(), exampleFleet(), exampleReports(), c.tag, c.day); s != c.want || e != api.OK {
			t.Errorf("the state of %d on the day %d is %v %d, not %v", c.tag, c.day, s, e, c.want)
		}
	}
}

// P2.3: the errors of the tag and of the day, in this order.
func TestStateErrors(t *testing.T) {
	for _, c := range []struct {
		tag, day int
		want     api.Errno
	}{{-1, 5, api.ErrMissing}, {4, 5, api.ErrMissing}, {4, -1, api.ErrMissing}, {3, -1, api.ErrRange}, {0, 36500, api.ErrRange}, {0, 36499, api.OK}, {0, 0, api.OK}} {
		if s, e := ground.State(exampleBay(), exampleFleet(), exampleReports(), c.tag, c.day); e != c.want || e != api.OK && s != (api.Spot{}) {
			t.Errorf("State of %d on the day %d returns %v %d, not %d", c.tag, c.day, s, e, c.want)
		}
	}
	if _, e := ground.State(exampleBay(), api.Fleet{}, nil, 0, 0); e != api.ErrMissing {
		t.Error("without tags State returns", e)
	}
}
