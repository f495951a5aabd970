package bay_test

import (
	"slices"
	"strings"
	"testing"

	"homarus/api"
	"homarus/bay"
)

// span returns a span, one that of a single number.
func span(low, high int) api.Span { return api.Span{Lo: low, Hi: high} }

func one(n int) api.Span { return span(n, n) }

func strong() api.Rope { return api.Rope{Kind: api.RopeStrong} }

func weak(low, high int) api.Rope { return api.Rope{Kind: api.RopeWeak, Part: span(low, high)} }

func ropeless() api.Rope { return api.Rope{Kind: api.RopeNone} }

// exampleBay and exampleFleet are B and F of the examples of layer 2, exampleMarket is M of those of layer 8.
func exampleBay() api.Bay {
	return api.Bay{
		Wide: 10, Deep: 2, Gangs: 3, Lines: [][]int{{3, 4}, {7, 7}},
		Customs: []api.Custom{{Line: 0, Rows: one(0), Days: span(10, 19), Shift: 5}, {Line: 1, Rows: span(0, 1), Days: span(15, 30), Shift: -2}},
	}
}

func exampleFleet() api.Fleet {
	return api.Fleet{
		Licences: []api.Licence{
			{Gang: 0, Most: 1, Master: -1, Days: span(0, 100)},
			{Gang: 0, Most: 1, Master: 0, Days: span(0, 100)},
			{Gang: 2, Most: 2, Master: -1, Days: span(50, 60)},
		},
		Tags: []int{0, 1, 2, 2},
	}
}

func exampleMarket() []api.Grade {
	return []api.Grade{
		{Name: "chick", Low: 450, High: 550, Price: 1000},
		{Name: "select", Low: 551, High: 900, Price: 1600},
		{Name: "cull", Low: 400, High: 900, Soft: true, Weak: true, Price: 700},
	}
}

// example is the harbour H of the chapter's examples.
func example() api.Harbour {
	return api.Harbour{
		Bay: exampleBay(), Fleet: exampleFleet(), Ropes: []api.Rope{strong(), weak(700, 900), ropeless(), strong()},
		Speed: 2, Memory: 30, Gauge: api.Gauge{Low: 830, High: 1270, Eggs: true, Notch: true}, Market: exampleMarket(), Guard: 1, Pull: 800, Ahead: 5,
	}
}

// changed returns a harbour with a change.
func changed(h api.Harbour, change func(h *api.Harbour)) api.Harbour {
	change(&h)
	return h
}

// diary returns the lines of a list, each with its line feed; in the list they are separated as in the chapter's examples.
func diary(list string) string {
	if list == "" {
		return ""
	}
	return strings.ReplaceAll(list, "; ", "\n") + "\n"
}

// replies returns the replies to a list of lines.
func replies(t *testing.T, h api.Harbour, list string) string {
	t.Helper()
	text, e := bay.Run(h, diary(list))
	if e != api.OK {
		t.Fatalf("%s: Run returns %d", list, e)
	}
	return strings.ReplaceAll(strings.TrimSuffix(text, "\n"), "\n", "; ")
}

// checkReplies holds the replies to lists of lines against those that are wanted.
func checkReplies(t *testing.T, h api.Harbour, wanted [][2]string) {
	t.Helper()
	for _, c := range wanted {
		if got := replies(t, h, c[0]); got != c[1] {
			t.Errorf("%s\n replies %s\n     not %s", c[0], got, c[1])
		}
	}
}

// kept returns the desk after a list of lines.
func kept(t *testing.T, h api.Harbour, list string) api.Desk {
	t.Helper()
	d, e := bay.Keep(h, diary(list))
	if e != api.OK {
		t.Fatalf("%s: Keep returns %d", list, e)
	}
	return d
}

// sameDesk says whether two desks are equal.
func sameDesk(a, b api.Desk) bool {
	return a.Day == b.Day && slices.Equal(a.Reports, b.Reports) && slices.Equal(a.Sights, b.Sights) && slices.Equal(a.Taken, b.Taken) && slices.Equal(a.Events, b.Events)
}

// P10.1: the chapter's examples.
func TestExamples(t *testing.T) {
	const catches = "set 0 2 0; day 1; haul 0; catch 0 900 900 m n n hard; catch 0 820 840 m n n hard; catch 0 950 960 f y ? hard; count 830 1000; catch 1 900 900 m n n hard"
	const caught = "ok; ok; ok; kept; back; back notched; 1 1; error 10"
	checkReplies(t, example(), [][2]string{
		{"set 0 2 0; where 0; set 0 2 0; set 1 2 0; haul 0; day 1; haul 0; where 0", "ok; out 2 0; error 10; error 5; error 13; ok; ok; home"},
		{"set 1 6 0; set 2 8 0; set 4 0 0; set 1 12 0; holder 6 0", "error 9; error 13; error 6; error 1; 1"},
		{catches, caught},
		{catches + "; buy select 1 600; buy select 1 600; sell select 1 600; left select", caught + "; ok; error 4; ok; 0 0"},
		{"set 0 2 0; whale 0 2 3 0 1; danger; day 1; whale 0 9 9 0 0", "ok; haul 0 0; 0 0 open; ok; error 9"},
		{"whale 0 2 3 0 0; set 0 2 1; set 1 0 0; faults; fuel; day 36500", "ok; error 14; ok; none; error 2; error 1"},
	})
}

// checkError holds the error of a diary in a harbour against the one that is wanted, for all functions.
func checkError(t *testing.T, name string, h api.Harbour, text string, want api.Errno) {
	t.Helper()
	said, a := bay.Run(h, text)
	d, b := bay.Keep(h, text)
	told, c := bay.Report(h, text)
	if a != want || b != want || c != want {
		t.Errorf("%s: Run returns %d, Keep %d, Report %d, not %d", name, a, b, c, want)
	}
	if want != api.OK && (said != "" || !sameDesk(d, api.Desk{}) || told != "") {
		t.Errorf("%s: beside the error %d there is %q %v %q", name, want, said, d, told)
	}
}

// P10.1: each error of a harbour, and both ends of its bounds; all functions return it, before they look at the diary.
func TestCheck(t *testing.T) {
	for name, c := range map[string]struct {
		change func(h *api.Harbour)
		want   api.Errno
	}{
		"as it is":           {func(h *api.Harbour) {}, api.OK},
		"nothing at all":     {func(h *api.Harbour) { *h = api.Harbour{} }, api.ErrRange},
		"no column":          {func(h *api.Harbour) { h.Bay.Wide = 0 }, api.ErrRange},
		"lines that cross":   {func(h *api.Harbour) { h.Bay.Lines = [][]int{{3, 4}, {2, 7}} }, api.ErrClash},
		"a line too few":     {func(h *api.Harbour) { h.Bay.Lines = h.Bay.Lines[:1] }, api.ErrForm},
		"a wrong custom":     {func(h *api.Harbour) { h.Bay.Customs = []api.Custom{{Line: 2}} }, api.ErrMissing},
		"a wrong licence":    {func(h *api.Harbour) { h.Fleet.Licences = []api.Licence{{Gang: 3}} }, api.ErrMissing},
		"a wrong tag":        {func(h *api.Harbour) { h.Fleet.Tags = []int{0, 1, 2, 3} }, api.ErrMissing},
		"a rope too few":     {func(h *api.Harbour) { h.Ropes = h.Ropes[:3] }, api.ErrForm},
		"a rope too much":    {func(h *api.Harbour) { h.Ropes = append(h.Ropes, strong()) }, api.ErrForm},
		"a kind of rope":     {func(h *api.Harbour) { h.Ropes = make([]api.Rope, 4) }, api.ErrKind},
		"a rope that parts":  {func(h *api.Harbour) { h.Ropes = []api.Rope{strong(), weak(0, 900), ropeless(), strong()} }, api.ErrRange},
		"backwards":          {func(h *api.Harbour) { h.Ropes = []api.Rope{strong(), weak(901, 900), ropeless(), strong()} }, api.ErrOrder},
		"no trap":            {func(h *api.Harbour) { h.Fleet.Tags, h.Ropes = nil, nil }, api.OK},
		"Speed -1":           {func(h *api.Harbour) { h.Speed = -1 }, api.ErrRange},
		"Speed 0":            {func(h *api.Harbour) { h.Speed = 0 }, api.OK},
		"Speed 200":          {func(h *api.Harbour) { h.Speed = 200 }, api.OK},
		"Speed 201":          {func(h *api.Harbour) { h.Speed = 201 }, api.ErrRange},
		"Memory -1":          {func(h *api.Harbour) { h.Memory = -1 }, api.ErrRange},
		"Memory 0":           {func(h *api.Harbour) { h.Memory = 0 }, api.OK},
		"Memory 59":          {func(h *api.Harbour) { h.Memory = 59 }, api.OK},
		"Memory 60":          {func(h *api.Harbour) { h.Memory = 60 }, api.ErrRange},
		"Low -1":             {func(h *api.Harbour) { h.Gauge.Low = -1 }, api.ErrRange},
		"High 2501":          {func(h *api.Harbour) { h.Gauge.High = 2501 }, api.ErrRange},
		"Low above High":     {func(h *api.Harbour) { h.Gauge.Low = 1271 }, api.ErrOrder},
		"Low as High":        {func(h *api.Harbour) { h.Gauge.Low = 1270 }, api.OK},
		"no grade":           {func(h *api.Harbour) { h.Market = nil }, api.ErrShort},
		"too many grades":    {func(h *api.Harbour) { h.Market = make([]api.Grade, 9) }, api.ErrFull},
		"a grade, no name":   {func(h *api.Harbour) { h.Market = []api.Grade{{Low: 1, High: 1}} }, api.ErrForm},
		"two of one name":    {func(h *api.Harbour) { h.Market = append(h.Market, h.Market[1]) }, api.ErrExists},
		"a grade, backwards": {func(h *api.Harbour) { h.Market = []api.Grade{{Name: "a", Low: 2, High: 1}} }, api.ErrOrder},
		"Guard -1":           {func(h *api.Harbour) { h.Guard = -1 }, api.ErrRange},
		"Guard 0":            {func(h *api.Harbour) { h.Guard = 0 }, api.OK},
		"Guard 50":           {func(h *api.Harbour) { h.Guard = 50 }, api.OK},
		"Guard 51":           {func(h *api.Harbour) { h.Guard = 51 }, api.ErrRange},
		"Pull 0":             {func(h *api.Harbour) { h.Pull = 0 }, api.ErrRange},
		"Pull 1":             {func(h *api.Harbour) { h.Pull = 1 }, api.OK},
		"Pull 5000":          {func(h *api.Harbour) { h.Pull = 5000 }, api.OK},
		"Pull 5001":          {func(h *api.Harbour) { h.Pull = 5001 }, api.ErrRange},
		"Ahead -1":           {func(h *api.Harbour) { h.Ahead = -1 }, api.ErrRange},
		"Ahead 0":            {func(h *api.Harbour) { h.Ahead = 0 }, api.OK},
		"Ahead 59":           {func(h *api.Harbour) { h.Ahead = 59 }, api.OK},
		"Ahead 60":           {func(h *api.Harbour) { h.Ahead = 60 }, api.ErrRange},
	} {
		h := changed(example(), c.change)
		if e := bay.Check(h); e != c.want {
			t.Errorf("%s: Check returns %d, not %d", name, e, c.want)
		}
		checkError(t, name, h, "day 1\n", c.want)
		if c.want != api.OK {
			checkError(t, name+", and a wrong diary", h, strings.Repeat("x", 8001), c.want)
		}
	}
}

// P10.1, R1: of several errors of a harbour the first one is returned.
func TestCheckOrder(t *testing.T) {
	wrong := []struct {
		change func(h *api.Harbour)
		want   api.Errno
	}{
		{func(h *api.Harbour) { h.Bay.Lines = nil }, api.ErrForm},
		{func(h *api.Harbour) { h.Fleet.Licences = nil }, api.ErrMissing},
		{func(h *api.Harbour) { h.Ropes = make([]api.Rope, 4) }, api.ErrKind},
		{func(h *api.Harbour) { h.Speed = 201 }, api.ErrRange},
		{func(h *api.Harbour) { h.Gauge.Low = 1271 }, api.ErrOrder},
		{func(h *api.Harbour) { h.Market = nil }, api.ErrShort},
		{func(h *api.Harbour) { h.Guard, h.Pull, h.Ahead = 51, 0, 60 }, api.ErrRange},
	}
	for first := range wrong {
		h := example()
		for _, c := range wrong[first:] {
			c.change(&h)
		}
		if e := bay.Check(h); e != wrong[first].want {
			t.Errorf("Check returns %d for the errors from the number %d on, not %d", e, first, wrong[first].want)
		}
		// The number behind it alone is wrong, too.
		h = example()
		wrong[first].change(&h)
		h.Memory = 60
		if e, want := bay.Check(h), wrong[min(first, 3)].want; e != want {
			t.Errorf("Check returns %d for a wrong Memory and the error of the number %d, not %d", e, first, want)
		}
	}
}

// P10.1: a diary that is too long, that does not end with a line feed, and that has too many lines, in this order.
func TestDiary(t *testing.T) {
	hundred := strings.Repeat("faults\n", 100)
	long := strings.Repeat(strings.Repeat("x", 79)+"\n", 100)
	for name, c := range map[string]struct {
		text string
		want api.Errno
	}{
		"nothing":                         {"", api.OK},
		"a line":                          {"day 1\n", api.OK},
		"a line without its end":          {"day 1", api.ErrForm},
		"the second one":                  {"day 1\nday 2", api.ErrForm},
		"an empty line":                   {"\n", api.OK},
		"a blank behind the last line":    {"day 1\n ", api.ErrForm},
		"100 lines":                       {hundred, api.OK},
		"101 lines":                       {hundred + "\n", api.ErrFull},
		"100 lines, and one without end":  {hundred + "x", api.ErrForm},
		"101 lines, and one without end":  {hundred + "\nx", api.ErrForm},
		"8000 bytes":                      {long, api.OK},
		"8001 bytes":                      {"x" + long, api.ErrLong},
		"8001 bytes without end":          {long + "x", api.ErrLong},
		"8000 bytes without a feed":       {strings.Repeat("x", 8000), api.ErrForm},
		"8000 bytes, more than 100 lines": {strings.Repeat("\n", 8000), api.ErrFull},
		"8001 bytes, more than 100 lines": {strings.Repeat("\n", 8001), api.ErrLong},
	} {
		checkError(t, name, example(), c.text, c.want)
		if said, e := bay.Run(example(), c.text); e == api.OK && strings.Count(said, "\n") != strings.Count(c.text, "\n") {
			t.Errorf("%s: Run returns %q", name, said)
		}
	}
	if said, e := bay.Run(example(), "day 1\nx\n\nwhere 0\n"); said != "ok\nerror 2\nerror 2\nhome\n" || e != api.OK {
		t.Errorf("Run returns %q %d", said, e)
	}
}

// P10.1: a desk begins with the day 0, and nothing else; its lists are in the order in which they were written.
func TestKeep(t *testing.T) {
	if d := kept(t, example(), ""); !sameDesk(d, api.Desk{}) {
		t.Errorf("the desk begins with %v", d)
	}
	d := kept(t, example(), "day 3; seen 1 2 0; seen 0 4 1; seen 1 2 0; whale 0 9 9 1 1; cut 1; whale 1 8 9 0 1; whale 0 7 9 1 1; day 40; haul 1; haul 0; "+
		"catch 1 900 901 f n ? old; catch 0 800 830 m n n soft; catch 1 1270 1270 m n n hard; catch 0 900 900 f y y hard; "+
		"buy cull 1 500; buy chick 1 450; drip cull 20; sell cull 1 480; back chick 1 450; buy chick 1 440; die chick 1 440; set 0 0 0; set 1 0 0; day 41")
	female := func(size api.Span, eggs, notch, shell int) api.Caught {
		return api.Caught{Size: size, Sex: api.Female, Eggs: eggs, Notch: notch, Shell: shell}
	}
	male := func(size api.Span, shell int) api.Caught {
		return api.Caught{Size: size, Sex: api.Male, Eggs: api.Never, Notch: api.Never, Shell: shell}
	}
	want := api.Desk{
		Day: 41,
		Reports: []api.Report{
			{Tag: 1, Day: 3, Kind: api.ReportSeen, X: 2}, {Tag: 0, Day: 3, Kind: api.ReportSeen, X: 4, Row: 1}, {Tag: 1, Day: 3, Kind: api.ReportSeen, X: 2},
			{Tag: 1, Day: 3, Kind: api.ReportCut}, {Tag: 1, Day: 40, Kind: api.ReportHaul}, {Tag: 0, Day: 40, Kind: api.ReportHaul}, {Tag: 0, Day: 40, Kind: api.ReportSet},
		},
		Sights: []api.Sight{{Whale: 0, Day: 3, X: one(9), Rows: one(1)}, {Whale: 1, Day: 3, X: span(8, 9), Rows: span(0, 1)}, {Whale: 0, Day: 3, X: span(7, 9), Rows: one(1)}},
		Taken: []api.Taken{
			{Tag: 1, Day: 40, Animal: female(span(900, 901), api.Never, api.Open, api.ShellOld), Fate: api.FateBack},
			{Tag: 0, Day: 40, Animal: male(span(800, 830), api.ShellSoft), Fate: api.FateBack},
			{Tag: 1, Day: 40, Animal: male(one(1270), api.ShellHard), Fate: api.FateKept},
			{Tag: 0, Day: 40, Animal: female(one(900), api.Sure, api.Sure, api.ShellHard), Fate: api.FateBack},
		},
		Events: []api.Event{
			{Kind: api.EventBuy, Grade: 2, Count: 1, Grams: 500}, {Kind: api.EventDrip, Grade: 2, Grams: 20}, {Kind: api.EventSell, Grade: 2, Count: 1, Grams: 480},
		},
	}
	if !sameDesk(d, want) {
		t.Errorf("the desk is\n%v, not\n%v", d, want)
	}
}
