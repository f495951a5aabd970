package ground_test

import (
	"slices"
	"testing"

	"homarus/api"
	"homarus/ground"
)

func span(low, high int) api.Span { return api.Span{Lo: low, Hi: high} }

func one(n int) api.Span { return span(n, n) }

// exampleBay is the bay B of the chapter's examples.
func exampleBay() api.Bay {
	return api.Bay{Wide: 10, Deep: 2, Gangs: 3, Lines: [][]int{{3, 4}, {7, 7}}, Customs: []api.Custom{
		{Line: 0, Rows: span(0, 0), Days: span(10, 19), Shift: 5},
		{Line: 1, Rows: span(0, 1), Days: span(15, 30), Shift: -2},
	}}
}

// changedBay returns the bay B with a change.
func changedBay(change func(b *api.Bay)) api.Bay {
	b := exampleBay()
	change(&b)
	return b
}

// customs returns the bay B with other customs.
func customs(list ...api.Custom) api.Bay {
	return changedBay(func(b *api.Bay) { b.Customs = list })
}

// largeBay is as large as a bay may be.
func largeBay() api.Bay {
	b := api.Bay{Wide: 200, Deep: 20, Gangs: 6}
	for line := range 5 {
		b.Lines = append(b.Lines, slices.Repeat([]int{50 * line}, 20))
	}
	return b
}

// results are what the functions of the package return, by their names.
type results map[string]result

type result struct {
	values []any
	e      api.Errno
}

// call is arguments for all functions of the package.
type call struct {
	b         api.Bay
	f         api.Fleet
	l         []api.Report
	day, tag  int
	x         api.Span
	row       int
	paperText string
}

// results calls each function.
func (c call) results() results {
	all := results{}
	add := func(name string, e api.Errno, values ...any) { all[name] = result{values, e} }
	add("Check", ground.Check(c.b))
	lines, e := ground.Lines(c.b, c.day)
	add("Lines", e, lines)
	holder, e := ground.Holder(c.b, c.day, c.x.Lo, c.row)
	add("Holder", e, holder)
	where, e := ground.Where(c.b, c.day, c.x, c.row)
	add("Where", e, where)
	changes, e := ground.Changes(c.b, c.x.Lo, c.row)
	add("Changes", e, changes)
	add("CheckFleet", ground.CheckFleet(c.b, c.f))
	book, e := ground.Book(c.b, c.f, c.l)
	add("Book", e, book)
	state, e := ground.State(c.b, c.f, c.l, c.tag, c.day)
	add("State", e, state)
	faults, e := ground.Faults(c.b, c.f, c.l, c.day)
	add("Faults", e, faults)
	text, e := ground.Write(c.b, c.f, c.l)
	add("Write", e, text)
	read, _, e := ground.Read(c.b, c.f, c.paperText)
	add("Read", e, read)
	return all
}

// P2.1: each error of a bay, at both ends of each bound, and which one comes first (R1).
func TestCheckFindsEachError(t *testing.T) {
	for name, c := range map[string]struct {
		change func(b *api.Bay)
		want   api.Errno
	}{
		"as it is":                 {func(b *api.Bay) {}, api.OK},
		"as large as may be":       {func(b *api.Bay) { *b = largeBay() }, api.OK},
		"one cell":                 {func(b *api.Bay) { *b = api.Bay{Wide: 1, Deep: 1, Gangs: 1} }, api.OK},
		"no columns":               {func(b *api.Bay) { *b = api.Bay{Wide: 0, Deep: 1, Gangs: 1} }, api.ErrRange},
		"columns below 0":          {func(b *api.Bay) { b.Wide = -1 }, api.ErrRange},
		"201 columns":              {func(b *api.Bay) { b.Wide = 201 }, api.ErrRange},
		"200 columns":              {func(b *api.Bay) { b.Wide = 200 }, api.OK},
		"no rows":                  {func(b *api.Bay) { *b = api.Bay{Wide: 1, Deep: 0, Gangs: 1} }, api.ErrRange},
		"21 rows":                  {func(b *api.Bay) { *b = api.Bay{Wide: 1, Deep: 21, Gangs: 1} }, api.ErrRange},
		"no gangs":                 {func(b *api.Bay) { *b = api.Bay{Wide: 1, Deep: 1, Gangs: 0} }, api.ErrRange},
		"7 gangs":                  {func(b *api.Bay) { *b = largeBay(); b.Gangs, b.Lines = 7, append(b.Lines, b.Lines[4]) }, api.ErrRange},
		"a line too few":           {func(b *api.Bay) { b.Lines = b.Lines[:1] }, api.ErrForm},
		"a line too many":          {func(b *api.Bay) { b.Lines = append(b.Lines, b.Lines[1]) }, api.ErrForm},
		"no line of two":           {func(b *api.Bay) { b.Lines = nil }, api.ErrForm},
		"a line for one gang":      {func(b *api.Bay) { b.Gangs, b.Lines = 1, b.Lines[:1] }, api.ErrForm},
		"a row too few":            {func(b *api.Bay) { b.Lines[1] = []int{7} }, api.ErrForm},
		"a row too many":           {func(b *api.Bay) { b.Lines[0] = []int{3, 4, 4} }, api.ErrForm},
		"a line without rows":      {func(b *api.Bay) { b.Lines[0] = nil }, api.ErrForm},
		"line below 0":             {func(b *api.Bay) { b.Lines[0][0] = -1 }, api.ErrRange},
		"line at 0":                {func(b *api.Bay) { b.Lines[0][1] = 0 }, api.OK},
		"line at the right":        {func(b *api.Bay) { b.Lines[1][0] = 10 }, api.OK},
		"line beyond it":           {func(b *api.Bay) { b.Lines[1][1] = 11 }, api.ErrRange},
		"lines that meet":          {func(b *api.Bay) { b.Lines[1] = []int{3, 4} }, api.OK},
		"lines that cross":         {func(b *api.Bay) { b.Lines[1] = []int{3, 3} }, api.ErrClash},
		"example: line 1 at 2 7":   {func(b *api.Bay) { b.Lines[1] = []int{2, 7} }, api.ErrClash},
		"form before its numbers":  {func(b *api.Bay) { b.Lines[1] = []int{-1} }, api.ErrForm},
		"line 0 before line 1":     {func(b *api.Bay) { b.Lines[0][1], b.Lines[1] = 11, nil }, api.ErrRange},
		"row 0 before row 1":       {func(b *api.Bay) { b.Lines[1] = []int{2, 11} }, api.ErrClash},
		"range before clash":       {func(b *api.Bay) { b.Lines[1] = []int{-1, 7} }, api.ErrRange},
		"wide before lines":        {func(b *api.Bay) { b.Wide, b.Lines = 201, nil }, api.ErrRange},
		"lines before customs":     {func(b *api.Bay) { b.Lines[1][0], b.Customs = 2, make([]api.Custom, 31) }, api.ErrClash},
		"no customs":               {func(b *api.Bay) { b.Customs = nil }, api.OK},
		"30 customs":               {func(b *api.Bay) { b.Customs = make([]api.Custom, 30) }, api.OK},
		"31 customs":               {func(b *api.Bay) { b.Customs = make([]api.Custom, 31) }, api.ErrFull},
		"31 customs that are none": {func(b *api.Bay) { b.Customs = slices.Repeat([]api.Custom{{Line: -1}}, 31) }, api.ErrFull},
		"error of the last custom": {func(b *api.Bay) { b.Customs = append(make([]api.Custom, 29), api.Custom{Shift: 201}) }, api.ErrRange},
		"custom of no line":        {func(b *api.Bay) { b.Customs[0].Line = -1 }, api.ErrMissing},
		"custom of a line too far": {func(b *api.Bay) { b.Customs[0].Line = 2 }, api.ErrMissing},
		"custom for one gang":      {func(b *api.Bay) { b.Gangs, b.Lines = 1, nil }, api.ErrMissing},
		"rows below 0":             {func(b *api.Bay) { b.Customs[0].Rows.Lo = -1 }, api.ErrRange},
		"rows too deep":            {func(b *api.Bay) { b.Customs[0].Rows.Hi = 2 }, api.ErrRange},
		"rows both too deep":       {func(b *api.Bay) { b.Customs[1].Rows = span(2, 2) }, api.ErrRange},
		"rows to below 0":          {func(b *api.Bay) { b.Customs[1].Rows = span(0, -1) }, api.ErrRange},
		"rows backwards":           {func(b *api.Bay) { b.Customs[1].Rows = span(1, 0) }, api.ErrOrder},
		"rows wrong and backwards": {func(b *api.Bay) { b.Customs[1].Rows = span(2, 0) }, api.ErrRange},
		"all days":                 {func(b *api.Bay) { b.Customs[0].Days = span(0, 364) }, api.OK},
		"example: days 10 to 365":  {func(b *api.Bay) { b.Customs[0].Days = span(10, 365) }, api.ErrRange},
		"days both too great":      {func(b *api.Bay) { b.Customs[0].Days = span(365, 365) }, api.ErrRange},
		"days below 0":             {func(b *api.Bay) { b.Customs[0].Days = span(-1, 9) }, api.ErrRange},
		"days backwards":           {func(b *api.Bay) { b.Customs[0].Days = span(10, 9) }, api.ErrOrder},
		"days wrong and backwards": {func(b *api.Bay) { b.Customs[0].Days = span(10, -1) }, api.ErrRange},
		"shift far right":          {func(b *api.Bay) { b.Customs[0].Shift = 200 }, api.OK},
		"shift too far right":      {func(b *api.Bay) { b.Customs[0].Shift = 201 }, api.ErrRange},
		"shift far left":           {func(b *api.Bay) { b.Customs[1].Shift = -200 }, api.OK},
		"shift too far left":       {func(b *api.Bay) { b.Customs[1].Shift = -201 }, api.ErrRange},
		"line before rows":         {func(b *api.Bay) { b.Customs[0].Line, b.Customs[0].Rows = 2, span(-1, 0) }, api.ErrMissing},
		"rows before days":         {func(b *api.Bay) { b.Customs[0].Rows, b.Customs[0].Days = span(1, 0), one(365) }, api.ErrOrder},
		"days before shift":        {func(b *api.Bay) { b.Customs[0].Days, b.Customs[0].Shift = span(1, 0), 201 }, api.ErrOrder},
		"custom before next one":   {func(b *api.Bay) { b.Customs[0].Shift, b.Customs[1].Line = 201, 2 }, api.ErrRange},
	} {
		b := changedBay(c.change)
		if e := ground.Check(b); e != c.want {
			t.Errorf("%s: Check returns %d, not %d", name, e, c.want)
		}
		if c.want == api.OK {
			continue
		}
		// Check's error comes before each other one, in all functions that return it.
		wrong := call{b: b, f: api.Fleet{Tags: make([]int, 41)}, l: make([]api.Report, 201), day: -1, tag: -1, x: span(5, -1), row: -1, paperText: string(make([]byte, 6001))}
		for function, r := range wrong.results() {
			if r.e != c.want {
				t.Errorf("%s: %s returns %d, not %d", name, function, r.e, c.want)
			}
		}
		if _, row, _ := ground.Read(b, wrong.f, "x"); row != 0 {
			t.Errorf("%s: Read returns the row %d", name, row)
		}
	}
}
