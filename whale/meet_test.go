package whale_test

import (
	"slices"
	"testing"

	"homarus/api"
	"homarus/whale"
)

const (
	sure = api.Sure
	open = api.Open
)

// exampleFleet is the fleet F of the chapter's examples; its traps are set as exampleReports say, with the exampleRopes.
func exampleFleet() api.Fleet {
	return api.Fleet{Licences: []api.Licence{{Most: 5, Master: -1, Days: span(0, 364)}}, Tags: []int{0, 0, 0}}
}

func exampleReports() []api.Report {
	return []api.Report{set(0, 5, 4, 1), set(1, 5, 9, 3), set(2, 5, 5, 0)}
}

func exampleRopes() []api.Rope { return []api.Rope{strong(), weak(700, 900), none()} }

func set(tag, day, x, row int) api.Report {
	return api.Report{Tag: tag, Day: day, Kind: api.ReportSet, X: x, Row: row}
}

func said(kind, tag, day int) api.Report { return api.Report{Tag: tag, Day: day, Kind: kind} }

func strong() api.Rope { return api.Rope{Kind: api.RopeStrong} }

func weak(low, high int) api.Rope { return api.Rope{Kind: api.RopeWeak, Part: span(low, high)} }

func none() api.Rope { return api.Rope{Kind: api.RopeNone} }

// meetings are some, each as its whale, its tag and its verdict; calls some, each as its tag and its day.
func meetings(list [][3]int) []api.Meeting {
	var all []api.Meeting
	for _, m := range list {
		all = append(all, api.Meeting{Whale: m[0], Tag: m[1], Verdict: m[2]})
	}
	return all
}

func calls(list [][2]int) []api.Call {
	var all []api.Call
	for _, c := range list {
		all = append(all, api.Call{Tag: c[0], Day: c[1]})
	}
	return all
}

// at is a whale that stays in a cell.
func at(x, row int) api.Whales {
	return api.Whales{Many: 1, Sights: []api.Sight{seen(0, 11, one(x), one(row))}}
}

// P6.3: the errors of ropes, in their order.
func TestCheckRopes(t *testing.T) {
	marked := func(mark string) api.Rope { return api.Rope{Kind: api.RopeNone, Mark: mark} }
	for name, c := range map[string]struct {
		tags  int
		ropes []api.Rope
		want  api.Errno
	}{
		"example":                         {3, exampleRopes(), api.OK},
		"none for none":                   {0, nil, api.OK},
		"one less":                        {4, exampleRopes(), api.ErrForm},
		"one more":                        {2, exampleRopes(), api.ErrForm},
		"one more, a wrong kind":          {0, []api.Rope{{}}, api.ErrForm},
		"kind 0":                          {1, []api.Rope{{}}, api.ErrKind},
		"kind 4":                          {1, []api.Rope{{Kind: 4}}, api.ErrKind},
		"kind 4, a wrong part":            {1, []api.Rope{{Kind: 4, Part: span(2, 1)}}, api.ErrKind},
		"part 0..1":                       {1, []api.Rope{weak(0, 1)}, api.ErrRange},
		"part 0..0":                       {1, []api.Rope{weak(0, 0)}, api.ErrRange},
		"part 1..1":                       {1, []api.Rope{weak(1, 1)}, api.OK},
		"part 1..0":                       {1, []api.Rope{weak(1, 0)}, api.ErrRange},
		"part 5000..5000":                 {1, []api.Rope{weak(5000, 5000)}, api.OK},
		"part 5000..5001":                 {1, []api.Rope{weak(5000, 5001)}, api.ErrRange},
		"part 5001..5000":                 {1, []api.Rope{weak(5001, 5000)}, api.ErrRange},
		"part 2..1":                       {1, []api.Rope{weak(2, 1)}, api.ErrOrder},
		"part 2..1, a wrong mark":         {1, []api.Rope{{Kind: api.RopeWeak, Part: span(2, 1), Mark: "A"}}, api.ErrOrder},
		"strong, part 0..1":               {1, []api.Rope{{Kind: api.RopeStrong, Part: span(0, 1)}}, api.ErrForm},
		"strong, part 1..0":               {1, []api.Rope{{Kind: api.RopeStrong, Part: span(1, 0)}}, api.ErrForm},
		"none, part 700..900":             {1, []api.Rope{{Kind: api.RopeNone, Part: span(700, 900)}}, api.ErrForm},
		"none, part -1..-1":               {1, []api.Rope{{Kind: api.RopeNone, Part: one(-1)}}, api.ErrForm},
		"mark a":                          {1, []api.Rope{marked("a")}, api.OK},
		"mark az":                         {1, []api.Rope{marked("az")}, api.OK},
		"mark of 12":                      {1, []api.Rope{marked("abcdefghijkl")}, api.OK},
		"mark of 13":                      {1, []api.Rope{marked("abcdefghijklm")}, api.ErrForm},
		"mark A":                          {1, []api.Rope{marked("aA")}, api.ErrForm},
		"mark `":                          {1, []api.Rope{marked("`")}, api.ErrForm},
		"mark {":                          {1, []api.Rope{marked("a{")}, api.ErrForm},
		"mark ä":                          {1, []api.Rope{marked("ä")}, api.ErrForm},
		"mark of a strong one":            {1, []api.Rope{{Kind: api.RopeStrong, Mark: "1"}}, api.ErrForm},
		"mark of a weak one":              {1, []api.Rope{{Kind: api.RopeWeak, Part: span(1, 2), Mark: " "}}, api.ErrForm},
		"a wrong mark, then a wrong kind": {2, []api.Rope{marked("A"), {}}, api.ErrForm},
		"a wrong kind, then a wrong mark": {2, []api.Rope{{}, marked("A")}, api.ErrKind},
	} {
		f := api.Fleet{Tags: slices.Repeat([]int{99}, c.tags), Licences: []api.Licence{{Gang: -1}}}
		if e := whale.CheckRopes(f, c.ropes); e != c.want {
			t.Errorf("%s: CheckRopes returns %d, not %d", name, e, c.want)
		}
		if c.want == api.OK {
			continue
		}
		f = exampleFleet()
		f.Tags = make([]int, c.tags)
		_, danger := whale.Danger(exampleBay(), exampleWhales(), f, nil, c.ropes, 0, 0)
		_, haul := whale.Haul(exampleBay(), exampleWhales(), f, nil, c.ropes, 0, 0, -1)
		if danger != c.want || haul != c.want {
			t.Errorf("%s: Danger returns %d, and Haul %d, not %d", name, danger, haul, c.want)
		}
	}
}

// P6.3: meetings, whale by whale, then trap by trap; whatever the rope is.
func TestMeet(t *testing.T) {
	three := api.Whales{Many: 3, Sights: []api.Sight{seen(2, 11, one(4), one(1)), seen(0, 11, span(4, 5), span(0, 1))}}
	for name, c := range map[string]struct {
		w    api.Whales
		l    []api.Report
		day  int
		list [][3]int
	}{
		"day 10":              {exampleWhales(), exampleReports(), 10, nil},
		"day 11":              {exampleWhales(), exampleReports(), 11, [][3]int{{0, 0, open}, {0, 2, open}}},
		"day 12":              {exampleWhales(), exampleReports(), 12, [][3]int{{0, 2, open}}},
		"day 13":              {exampleWhales(), exampleReports(), 13, [][3]int{{0, 1, open}}},
		"before they are set": {exampleWhales(), exampleReports(), 4, nil},
		"day 0":               {exampleWhales(), []api.Report{set(1, 0, 0, 0)}, 0, [][3]int{{0, 1, open}}},
		"day 36499":           {exampleWhales(), exampleReports(), 36499, [][3]int{{0, 0, open}, {0, 1, open}, {0, 2, open}}},
		"hauled":              {exampleWhales(), append(exampleReports(), said(api.ReportHaul, 0, 11)), 11, [][3]int{{0, 2, open}}},
		"hauled later":        {exampleWhales(), append(exampleReports(), said(api.ReportHaul, 0, 12)), 11, [][3]int{{0, 0, open}, {0, 2, open}}},
		"a ghost":             {exampleWhales(), append(exampleReports(), said(api.ReportCut, 0, 6)), 11, [][3]int{{0, 2, open}}},
		"seen elsewhere":      {exampleWhales(), append(exampleReports(), api.Report{Tag: 0, Day: 6, Kind: api.ReportSeen, X: 9, Row: 0}), 11, [][3]int{{0, 2, open}}},
		"surely there":        {at(4, 1), exampleReports(), 11, [][3]int{{0, 0, sure}}},
		"the row beside it":   {at(4, 2), exampleReports(), 11, nil},
		"the column beside":   {at(3, 1), exampleReports(), 11, nil},
		"no whale":            {api.Whales{}, exampleReports(), 11, nil},
		"three whales":        {three, exampleReports(), 11, [][3]int{{0, 0, open}, {0, 2, open}, {1, 0, open}, {1, 1, open}, {1, 2, open}, {2, 0, sure}}},
		"no reports":          {exampleWhales(), nil, 11, nil},
	} {
		list, e := whale.Meet(exampleBay(), c.w, exampleFleet(), c.l, c.day)
		if e != api.OK || !slices.Equal(list, meetings(c.list)) {
			t.Errorf("%s: Meet returns %v %d", name, list, e)
		}
	}
}

// P6.3, P6.4: the errors of the fleet and of the reports, then of the day, then of the ropes, then of the pull, then of the last day.
func TestMeetErrors(t *testing.T) {
	f, l, ropes := exampleFleet(), exampleReports(), exampleRopes()
	masterless := exampleFleet()
	masterless.Licences[0].Master = 0
	unlike := append(exampleReports(), set(1, 5, 0, 0))
	for name, c := range map[string]struct {
		f                  api.Fleet
		l                  []api.Report
		day                int
		ropes              []api.Rope
		pull, to           int
		meet, danger, haul api.Errno
	}{
		"none":                         {f, l, 11, ropes, 800, 11, api.OK, api.OK, api.OK},
		"the fleet, then all":          {masterless, unlike, -1, nil, 0, -1, api.ErrMissing, api.ErrMissing, api.ErrMissing},
		"the reports, then all":        {f, unlike, -1, nil, 0, -1, api.ErrClash, api.ErrClash, api.ErrClash},
		"too many reports":             {f, make([]api.Report, 201), -1, nil, 0, -1, api.ErrFull, api.ErrFull, api.ErrFull},
		"a report without a kind":      {f, make([]api.Report, 200), -1, nil, 0, -1, api.ErrKind, api.ErrKind, api.ErrKind},
		"the day -1, then all":         {f, l, -1, nil, 0, -1, api.ErrRange, api.ErrRange, api.ErrRange},
		"the day 36500, then all":      {f, l, 36500, nil, 0, -1, api.ErrRange, api.ErrRange, api.ErrRange},
		"the day 36499":                {f, l, 36499, ropes, 1, 36499, api.OK, api.OK, api.OK},
		"the ropes, then all":          {f, l, 0, nil, 0, -1, api.OK, api.ErrForm, api.ErrForm},
		"the kind of a rope, then all": {f, l, 0, make([]api.Rope, 3), 0, -1, api.OK, api.ErrKind, api.ErrKind},
		"pull 0":                       {f, l, 0, ropes, 0, 0, api.OK, api.ErrRange, api.ErrRange},
		"pull 0, from above to":        {f, l, 1, ropes, 0, 0, api.OK, api.ErrRange, api.ErrRange},
		"pull -1":                      {f, l, 0, ropes, -1, 0, api.OK, api.ErrRange, api.ErrRange},
		"pull 1":                       {f, l, 0, ropes, 1, 0, api.OK, api.OK, api.OK},
		"pull 5000":                    {f, l, 0, ropes, 5000, 0, api.OK, api.OK, api.OK},
		"pull 5001":                    {f, l, 0, ropes, 5001, 0, api.OK, api.ErrRange, api.ErrRange},
		"to -1":                        {f, l, 0, ropes, 1, -1, api.OK, api.OK, api.ErrRange},
		"to 36500":                     {f, l, 36499, ropes, 1, 36500, api.OK, api.OK, api.ErrRange},
		"to 36500, many days":          {f, l, 0, ropes, 1, 36500, api.OK, api.OK, api.ErrRange},
		"from above to":                {f, l, 12, ropes, 1, 11, api.OK, api.OK, api.ErrOrder},
		"from far above to":            {f, l, 36499, ropes, 1, 0, api.OK, api.OK, api.ErrOrder},
		"60 days":                      {f, l, 10, ropes, 1, 69, api.OK, api.OK, api.OK},
		"61 days":                      {f, l, 10, ropes, 1, 70, api.OK, api.OK, api.ErrFull},
	} {
		_, meet := whale.Meet(exampleBay(), exampleWhales(), c.f, c.l, c.day)
		_, danger := whale.Danger(exampleBay(), exampleWhales(), c.f, c.l, c.ropes, c.pull, c.day)
		_, haul := whale.Haul(exampleBay(), exampleWhales(), c.f, c.l, c.ropes, c.pull, c.day, c.to)
		if meet != c.meet || danger != c.danger || haul != c.haul {
			t.Errorf("%s: Meet returns %d, Danger %d, Haul %d", name, meet, danger, haul)
		}
	}
}

// P6.4: what is in danger at a pull.
func TestDanger(t *testing.T) {
	all := func(r api.Rope) []api.Rope { return []api.Rope{r, r, r} }
	for name, c := range map[string]struct {
		w         api.Whales
		ropes     []api.Rope
		pull, day int
		list      [][3]int
	}{
		"day 11":                          {exampleWhales(), exampleRopes(), 800, 11, [][3]int{{0, 0, open}}},
		"day 12, no rope":                 {exampleWhales(), exampleRopes(), 800, 12, nil},
		"day 13, a weak rope":             {exampleWhales(), exampleRopes(), 800, 13, [][3]int{{0, 1, open}}},
		"day 13, it parts":                {exampleWhales(), exampleRopes(), 900, 13, nil},
		"day 13, it may not part":         {exampleWhales(), exampleRopes(), 899, 13, [][3]int{{0, 1, open}}},
		"day 13, it does not part":        {exampleWhales(), exampleRopes(), 699, 13, [][3]int{{0, 1, open}}},
		"surely there, strong":            {at(4, 1), all(strong()), 5000, 11, [][3]int{{0, 0, sure}}},
		"surely there, no rope":           {at(4, 1), all(none()), 1, 11, nil},
		"surely there, it does not part":  {at(4, 1), all(weak(700, 900)), 699, 11, [][3]int{{0, 0, sure}}},
		"surely there, it may part":       {at(4, 1), all(weak(700, 900)), 700, 11, [][3]int{{0, 0, open}}},
		"surely there, it may not part":   {at(4, 1), all(weak(700, 900)), 899, 11, [][3]int{{0, 0, open}}},
		"surely there, it parts":          {at(4, 1), all(weak(700, 900)), 900, 11, nil},
		"surely there, parts at one pull": {at(4, 1), all(weak(700, 700)), 700, 11, nil},
		"surely there, just not":          {at(4, 1), all(weak(700, 700)), 699, 11, [][3]int{{0, 0, sure}}},
		"perhaps there, strong":           {exampleWhales(), all(strong()), 1, 11, [][3]int{{0, 0, open}, {0, 2, open}}},
	} {
		list, e := whale.Danger(exampleBay(), c.w, exampleFleet(), exampleReports(), c.ropes, c.pull, c.day)
		if e != api.OK || !slices.Equal(list, meetings(c.list)) {
			t.Errorf("%s: Danger returns %v %d", name, list, e)
		}
	}
}

// P6.4: each trap once, in the order of the tags, before the first day on which it is in danger.
func TestHaul(t *testing.T) {
	hauled := append(exampleReports(), said(api.ReportHaul, 0, 11), set(0, 12, 6, 1))
	for name, c := range map[string]struct {
		w              api.Whales
		l              []api.Report
		pull, from, to int
		list           [][2]int
	}{
		"days 10 to 14":          {exampleWhales(), exampleReports(), 800, 10, 14, [][2]int{{0, 11}, {1, 13}}},
		"days 10 to 14, 900":     {exampleWhales(), exampleReports(), 900, 10, 14, [][2]int{{0, 11}}},
		"day 10":                 {exampleWhales(), exampleReports(), 800, 10, 10, nil},
		"days 10 to 11":          {exampleWhales(), exampleReports(), 800, 10, 11, [][2]int{{0, 11}}},
		"day 11":                 {exampleWhales(), exampleReports(), 800, 11, 11, [][2]int{{0, 11}}},
		"days 12 to 13":          {exampleWhales(), exampleReports(), 800, 12, 13, [][2]int{{1, 13}}},
		"days 12 to 71":          {exampleWhales(), exampleReports(), 800, 12, 71, [][2]int{{0, 15}, {1, 13}}},
		"days 4 to 8":            {exampleWhales(), exampleReports(), 800, 4, 8, [][2]int{{0, 5}, {1, 5}}},
		"hauled, set elsewhere":  {exampleWhales(), hauled, 800, 10, 14, [][2]int{{0, 12}, {1, 13}}},
		"the last days":          {exampleWhales(), exampleReports(), 800, 36440, 36499, [][2]int{{0, 36440}, {1, 36440}}},
		"the last day":           {exampleWhales(), exampleReports(), 800, 36499, 36499, [][2]int{{0, 36499}, {1, 36499}}},
		"set on the last of all": {at(4, 1), []api.Report{set(0, 69, 4, 1)}, 800, 10, 69, [][2]int{{0, 69}}},
		"no whale":               {api.Whales{}, exampleReports(), 800, 10, 14, nil},
	} {
		list, e := whale.Haul(exampleBay(), c.w, exampleFleet(), c.l, exampleRopes(), c.pull, c.from, c.to)
		if e != api.OK || !slices.Equal(list, calls(c.list)) {
			t.Errorf("%s: Haul returns %v %d", name, list, e)
		}
	}
}
