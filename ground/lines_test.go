package ground_test

import (
	"slices"
	"testing"

	"homarus/api"
	"homarus/ground"
)

func sameLines(a, b [][]int) bool { return slices.EqualFunc(a, b, slices.Equal[[]int]) }

// P2.1: the lines of the examples, and those on the first and the last days of customs.
func TestLines(t *testing.T) {
	for _, c := range []struct {
		day  int
		want [][]int
	}{
		{0, [][]int{{3, 4}, {7, 7}}},
		{9, [][]int{{3, 4}, {7, 7}}},
		{10, [][]int{{8, 4}, {8, 7}}},
		{12, [][]int{{8, 4}, {8, 7}}},
		{14, [][]int{{8, 4}, {8, 7}}},
		{15, [][]int{{8, 4}, {8, 5}}},
		{17, [][]int{{8, 4}, {8, 5}}},
		{19, [][]int{{8, 4}, {8, 5}}},
		{20, [][]int{{3, 4}, {5, 5}}},
		{30, [][]int{{3, 4}, {5, 5}}},
		{31, [][]int{{3, 4}, {7, 7}}},
		{364, [][]int{{3, 4}, {7, 7}}},
		{365, [][]int{{3, 4}, {7, 7}}},
		{382, [][]int{{8, 4}, {8, 5}}},
		{36499, [][]int{{3, 4}, {7, 7}}},
		{36499 - 364 + 10, [][]int{{8, 4}, {8, 7}}},
	} {
		if l, e := ground.Lines(exampleBay(), c.day); e != api.OK || !sameLines(l, c.want) {
			t.Errorf("on the day %d Lines returns %v %d, not %v", c.day, l, e, c.want)
		}
	}
}

// P2.1: lines that would like to lie where they may not, and customs that hold together.
func TestLinesThatArePushed(t *testing.T) {
	all, days := span(0, 1), span(5, 5)
	for name, c := range map[string]struct {
		customs []api.Custom
		want    [][]int
	}{
		"none":                      {nil, [][]int{{3, 4}, {7, 7}}},
		"to the left end":           {[]api.Custom{{Line: 0, Rows: all, Days: days, Shift: -4}}, [][]int{{0, 0}, {7, 7}}},
		"far beyond it":             {[]api.Custom{{Line: 0, Rows: all, Days: days, Shift: -200}}, [][]int{{0, 0}, {7, 7}}},
		"to the right end":          {[]api.Custom{{Line: 1, Rows: all, Days: days, Shift: 3}}, [][]int{{3, 4}, {10, 10}}},
		"far beyond it too":         {[]api.Custom{{Line: 1, Rows: all, Days: days, Shift: 200}}, [][]int{{3, 4}, {10, 10}}},
		"the line 0 pushes":         {[]api.Custom{{Line: 0, Rows: all, Days: days, Shift: 200}}, [][]int{{10, 10}, {10, 10}}},
		"the line 1 does not push":  {[]api.Custom{{Line: 1, Rows: all, Days: days, Shift: -200}}, [][]int{{3, 4}, {3, 4}}},
		"up to the line before it":  {[]api.Custom{{Line: 1, Rows: all, Days: days, Shift: -4}}, [][]int{{3, 4}, {3, 4}}},
		"one row":                   {[]api.Custom{{Line: 0, Rows: one(1), Days: days, Shift: 2}}, [][]int{{3, 6}, {7, 7}}},
		"added up":                  {[]api.Custom{{Line: 0, Rows: all, Days: days, Shift: 2}, {Line: 0, Rows: one(0), Days: days, Shift: 1}}, [][]int{{6, 6}, {7, 7}}},
		"added up before they stop": {[]api.Custom{{Line: 0, Rows: all, Days: days, Shift: 200}, {Line: 0, Rows: all, Days: days, Shift: -199}}, [][]int{{4, 5}, {7, 7}}},
		"and to the left":           {[]api.Custom{{Line: 0, Rows: all, Days: days, Shift: -200}, {Line: 0, Rows: all, Days: days, Shift: 199}}, [][]int{{2, 3}, {7, 7}}},
		"from where it was at home": {[]api.Custom{{Line: 0, Rows: all, Days: days, Shift: 5}, {Line: 1, Rows: all, Days: days, Shift: 2}}, [][]int{{8, 9}, {9, 9}}},
		"another day":               {[]api.Custom{{Line: 0, Rows: all, Days: span(0, 4), Shift: 1}, {Line: 0, Rows: all, Days: span(6, 364), Shift: 1}}, [][]int{{3, 4}, {7, 7}}},
		"the same one twice":        {[]api.Custom{{Line: 0, Rows: all, Days: days, Shift: 1}, {Line: 0, Rows: all, Days: days, Shift: 1}}, [][]int{{5, 6}, {7, 7}}},
	} {
		if l, e := ground.Lines(customs(c.customs...), 5); e != api.OK || !sameLines(l, c.want) {
			t.Errorf("%s: Lines returns %v %d, not %v", name, l, e, c.want)
		}
	}
	if l, e := ground.Lines(api.Bay{Wide: 5, Deep: 3, Gangs: 1}, 5); e != api.OK || len(l) != 0 {
		t.Error("a bay of one gang has the lines", l, e)
	}
	b := largeBay()
	b.Customs = slices.Repeat([]api.Custom{{Line: 2, Rows: span(0, 19), Days: span(0, 364), Shift: 200}}, 30)
	if l, e := ground.Lines(b, 36499); e != api.OK || l[1][19] != 50 || l[2][19] != 200 || l[4][0] != 200 {
		t.Error("a large bay has the lines", l, e)
	}
}

// P2.1: who holds a cell, beside lines, on them, and where lines meet.
func TestHolder(t *testing.T) {
	still := api.Bay{Wide: 4, Deep: 1, Gangs: 4, Lines: [][]int{{0}, {2}, {2}}}
	ends := api.Bay{Wide: 4, Deep: 1, Gangs: 3, Lines: [][]int{{0}, {4}}}
	alone := api.Bay{Wide: 4, Deep: 1, Gangs: 1}
	for _, c := range []struct {
		b                 api.Bay
		day, x, row, want int
	}{
		{exampleBay(), 0, 6, 0, 1}, {exampleBay(), 12, 6, 0, 0}, {exampleBay(), 17, 6, 1, 2},
		{exampleBay(), 0, 0, 0, 0}, {exampleBay(), 0, 2, 0, 0}, {exampleBay(), 0, 3, 0, 1}, {exampleBay(), 0, 3, 1, 0}, {exampleBay(), 0, 4, 1, 1},
		{exampleBay(), 0, 7, 0, 2}, {exampleBay(), 0, 9, 1, 2}, {exampleBay(), 12, 7, 0, 0}, {exampleBay(), 12, 8, 0, 2},
		{still, 0, 0, 0, 1}, {still, 0, 1, 0, 1}, {still, 0, 2, 0, 3}, {still, 0, 3, 0, 3},
		{ends, 0, 0, 0, 1}, {ends, 0, 3, 0, 1}, {alone, 0, 0, 0, 0}, {alone, 36499, 3, 0, 0},
	} {
		if g, e := ground.Holder(c.b, c.day, c.x, c.row); g != c.want || e != api.OK {
			t.Errorf("on the day %d the holder of %d %d is %d %d, not %d", c.day, c.x, c.row, g, e, c.want)
		}
	}
}

// P2.2: the verdicts on columns that are not known exactly.
func TestWhere(t *testing.T) {
	const s, n, o = api.Sure, api.Never, api.Open
	for _, c := range []struct {
		day  int
		x    api.Span
		row  int
		want []int
	}{
		{0, span(2, 3), 0, []int{o, o, n}}, {0, span(7, 9), 1, []int{n, n, s}},
		{0, span(0, 2), 0, []int{s, n, n}}, {0, span(0, 3), 0, []int{o, o, n}}, {0, span(0, 3), 1, []int{s, n, n}}, {0, span(3, 6), 0, []int{n, s, n}},
		{0, span(3, 7), 0, []int{n, o, o}}, {0, span(2, 7), 0, []int{o, o, o}}, {0, span(0, 9), 0, []int{o, o, o}}, {0, one(6), 0, []int{n, s, n}}, {0, one(7), 0, []int{n, n, s}},
		{12, span(2, 7), 0, []int{s, n, n}}, {12, span(7, 8), 0, []int{o, n, o}}, {382, span(4, 5), 1, []int{n, o, o}},
	} {
		if l, e := ground.Where(exampleBay(), c.day, c.x, c.row); e != api.OK || !slices.Equal(l, c.want) {
			t.Errorf("Where(B, %d, %v, %d) returns %v %d, not %v", c.day, c.x, c.row, l, e, c.want)
		}
	}
	if l, e := ground.Where(api.Bay{Wide: 4, Deep: 1, Gangs: 1}, 0, span(0, 3), 0); e != api.OK || !slices.Equal(l, []int{s}) {
		t.Error("where there is one gang Where returns", l, e)
	}
	if l, e := ground.Where(largeBay(), 0, span(0, 199), 19); e != api.OK || !slices.Equal(l, []int{n, o, o, o, o, n}) {
		t.Error("in a large bay Where returns", l, e)
	}
}

// P2.2: on which days of the year a cell gets another holder.
func TestChanges(t *testing.T) {
	all := span(0, 1)
	for name, c := range map[string]struct {
		customs []api.Custom
		x, row  int
		want    []int
	}{
		"example":                    {exampleBay().Customs, 6, 0, []int{10, 20, 31}},
		"example, the row 1":         {exampleBay().Customs, 6, 1, []int{15, 31}},
		"a cell far from lines":      {exampleBay().Customs, 0, 0, nil},
		"no custom":                  {nil, 6, 0, nil},
		"from the first day on":      {[]api.Custom{{Line: 0, Rows: all, Days: span(0, 5), Shift: 2}}, 4, 0, []int{0, 6}},
		"the first day alone":        {[]api.Custom{{Line: 0, Rows: all, Days: one(0), Shift: 2}}, 4, 0, []int{0, 1}},
		"up to the last day":         {[]api.Custom{{Line: 0, Rows: all, Days: span(360, 364), Shift: 2}}, 4, 0, []int{0, 360}},
		"the last day alone":         {[]api.Custom{{Line: 0, Rows: all, Days: one(364), Shift: 2}}, 4, 0, []int{0, 364}},
		"over the end of the year":   {[]api.Custom{{Line: 0, Rows: all, Days: span(360, 364), Shift: 2}, {Line: 0, Rows: all, Days: span(0, 5), Shift: 2}}, 4, 0, []int{6, 360}},
		"the whole year":             {[]api.Custom{{Line: 0, Rows: all, Days: span(0, 364), Shift: 2}}, 4, 0, nil},
		"one custom after another":   {[]api.Custom{{Line: 0, Rows: all, Days: span(10, 19), Shift: 2}, {Line: 0, Rows: all, Days: span(20, 29), Shift: 3}}, 4, 0, []int{10, 30}},
		"the line stops at the cell": {[]api.Custom{{Line: 0, Rows: all, Days: span(10, 19), Shift: 1}}, 4, 0, nil},
		"each gang in turn":          {[]api.Custom{{Line: 1, Rows: all, Days: span(10, 19), Shift: -4}, {Line: 0, Rows: all, Days: span(15, 25), Shift: 3}}, 5, 0, []int{10, 15, 26}},
	} {
		if l, e := ground.Changes(customs(c.customs...), c.x, c.row); e != api.OK || !slices.Equal(l, c.want) {
			t.Errorf("%s: Changes returns %v %d, not %v", name, l, e, c.want)
		}
	}
}

// P2.1, P2.2: the errors of days, cells and columns, and which one comes first.
func TestErrorsOfDaysAndCells(t *testing.T) {
	b := exampleBay()
	for _, c := range []struct{ day, x, row int }{{-1, 0, 0}, {36500, 0, 0}, {0, -1, 0}, {0, 10, 0}, {0, 0, -1}, {0, 0, 2}} {
		if g, e := ground.Holder(b, c.day, c.x, c.row); g != 0 || e != api.ErrRange {
			t.Errorf("Holder(B, %d, %d, %d) returns %d %d", c.day, c.x, c.row, g, e)
		}
		if l, e := ground.Where(b, c.day, one(c.x), c.row); len(l) != 0 || e != api.ErrRange {
			t.Errorf("Where(B, %d, %d, %d) returns %v %d", c.day, c.x, c.row, l, e)
		}
		wantLines, wantChanges := api.ErrRange, api.OK
		if 0 <= c.day && c.day <= api.LastDay {
			wantLines, wantChanges = api.OK, api.ErrRange
		}
		if _, e := ground.Lines(b, c.day); e != wantLines {
			t.Errorf("Lines(B, %d) returns %d", c.day, e)
		}
		if _, e := ground.Changes(b, c.x, c.row); e != wantChanges {
			t.Errorf("Changes(B, %d, %d) returns %d", c.x, c.row, e)
		}
	}
	for _, c := range []struct {
		day  int
		x    api.Span
		row  int
		want api.Errno
	}{
		{36499, span(0, 9), 1, api.OK}, {0, span(5, 4), 0, api.ErrOrder}, {0, span(9, 0), 1, api.ErrOrder}, {0, span(-1, 4), 0, api.ErrRange}, {0, span(4, 10), 0, api.ErrRange},
		{0, span(4, -1), 0, api.ErrRange}, {0, span(10, 4), 0, api.ErrRange}, {0, span(5, 4), 2, api.ErrRange}, {0, span(5, 4), -1, api.ErrRange}, {-1, span(5, 4), 0, api.ErrRange}, {36500, span(5, 4), 0, api.ErrRange},
	} {
		if l, e := ground.Where(b, c.day, c.x, c.row); e != c.want || e != api.OK && len(l) != 0 {
			t.Errorf("Where(B, %d, %v, %d) returns %v %d, not %d", c.day, c.x, c.row, l, e, c.want)
		}
	}
}
