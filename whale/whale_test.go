package whale_test

import (
	"slices"
	"testing"

	"homarus/api"
	"homarus/whale"
)

func span(low, high int) api.Span { return api.Span{Lo: low, Hi: high} }

func one(n int) api.Span { return span(n, n) }

// exampleBay is the bay B of the chapter's examples, exampleWhales the whale W.
func exampleBay() api.Bay { return api.Bay{Wide: 10, Deep: 4, Gangs: 1} }

func exampleWhales() api.Whales {
	return api.Whales{Many: 1, Speed: 2, Sights: []api.Sight{seen(0, 10, span(2, 3), one(0)), seen(0, 13, span(7, 9), span(2, 3))}}
}

func seen(whale, day int, x, rows api.Span) api.Sight {
	return api.Sight{Whale: whale, Day: day, X: x, Rows: rows}
}

// changedWhales returns the whale W with a change.
func changedWhales(change func(w *api.Whales)) api.Whales {
	w := exampleWhales()
	change(&w)
	return w
}

// whaleErrors are changes of the whale W, and the first error that it has then.
func whaleErrors() map[string]struct {
	change func(w *api.Whales)
	want   api.Errno
} {
	many := func(n int) []api.Sight { return slices.Repeat([]api.Sight{seen(0, 10, span(2, 3), one(0))}, n) }
	return map[string]struct {
		change func(w *api.Whales)
		want   api.Errno
	}{
		"W":                            {func(w *api.Whales) {}, api.OK},
		"no whale":                     {func(w *api.Whales) { *w = api.Whales{} }, api.OK},
		"-1 whales":                    {func(w *api.Whales) { w.Many = -1 }, api.ErrRange},
		"0 whales, sights":             {func(w *api.Whales) { w.Many = 0 }, api.ErrMissing},
		"6 whales":                     {func(w *api.Whales) { w.Many = 6 }, api.OK},
		"7 whales":                     {func(w *api.Whales) { w.Many = 7 }, api.ErrRange},
		"7 whales, 41 sights":          {func(w *api.Whales) { w.Many, w.Sights = 7, many(41) }, api.ErrRange},
		"speed -1":                     {func(w *api.Whales) { w.Speed = -1 }, api.ErrRange},
		"speed 0":                      {func(w *api.Whales) { w.Speed = 0 }, api.ErrClash},
		"speed 0, seen twice there":    {func(w *api.Whales) { w.Speed, w.Sights[1].X, w.Sights[1].Rows = 0, one(3), one(0) }, api.OK},
		"speed 1":                      {func(w *api.Whales) { w.Speed = 1 }, api.ErrClash},
		"speed 200":                    {func(w *api.Whales) { w.Speed = 200 }, api.OK},
		"speed 201":                    {func(w *api.Whales) { w.Speed = 201 }, api.ErrRange},
		"speed 201, 41 sights":         {func(w *api.Whales) { w.Speed, w.Sights = 201, many(41) }, api.ErrRange},
		"40 sights":                    {func(w *api.Whales) { w.Sights = many(40) }, api.OK},
		"41 sights":                    {func(w *api.Whales) { w.Sights = many(41) }, api.ErrFull},
		"41 sights of another whale":   {func(w *api.Whales) { w.Sights = many(41); w.Sights[0].Whale = 1 }, api.ErrFull},
		"whale -1":                     {func(w *api.Whales) { w.Sights[0].Whale = -1 }, api.ErrMissing},
		"whale 1":                      {func(w *api.Whales) { w.Sights[0].Whale = 1 }, api.ErrMissing},
		"whale 1 of 2":                 {func(w *api.Whales) { w.Many, w.Sights[0].Whale = 2, 1 }, api.OK},
		"whale 2 of 2":                 {func(w *api.Whales) { w.Many, w.Sights[0].Whale = 2, 2 }, api.ErrMissing},
		"whale 1, day -1":              {func(w *api.Whales) { w.Sights[0].Whale, w.Sights[0].Day = 1, -1 }, api.ErrMissing},
		"day -1":                       {func(w *api.Whales) { w.Sights[0].Day = -1 }, api.ErrRange},
		"day 0":                        {func(w *api.Whales) { w.Sights[0].Day = 0 }, api.OK},
		"day 36499":                    {func(w *api.Whales) { w.Sights[1].Day = 36499 }, api.OK},
		"day 36500":                    {func(w *api.Whales) { w.Sights[1].Day = 36500 }, api.ErrRange},
		"day 11, too far":              {func(w *api.Whales) { w.Sights[1].Day = 11 }, api.ErrClash},
		"day 12, too far":              {func(w *api.Whales) { w.Sights[1].X, w.Sights[1].Day = span(8, 9), 12 }, api.ErrClash},
		"day 12, just near enough":     {func(w *api.Whales) { w.Sights[1].Day = 12 }, api.OK},
		"day 8, too far":               {func(w *api.Whales) { w.Sights[1].X, w.Sights[1].Day = span(8, 9), 8 }, api.ErrClash},
		"rows too far":                 {func(w *api.Whales) { w.Sights[1] = seen(0, 11, span(2, 3), one(3)) }, api.ErrClash},
		"rows just near enough":        {func(w *api.Whales) { w.Sights[1] = seen(0, 11, span(2, 3), span(2, 3)) }, api.OK},
		"two places on one day":        {func(w *api.Whales) { w.Sights[1] = seen(0, 10, span(4, 9), one(0)) }, api.ErrClash},
		"two places, one cell of both": {func(w *api.Whales) { w.Sights[1] = seen(0, 10, span(3, 9), span(0, 3)) }, api.OK},
		"two whales in two places":     {func(w *api.Whales) { w.Many = 2; w.Sights[1] = seen(1, 10, span(4, 9), one(0)) }, api.OK},
		"the last whale has no track":  {func(w *api.Whales) { w.Many = 6; w.Sights[0].Whale, w.Sights[1].Whale, w.Speed = 5, 5, 1 }, api.ErrClash},
		"too far, seen between":        {func(w *api.Whales) { w.Sights = append(w.Sights, seen(0, 12, span(3, 4), span(0, 3))) }, api.ErrClash},
		"X -1":                         {func(w *api.Whales) { w.Sights[0].X.Lo = -1 }, api.ErrRange},
		"X -1 twice":                   {func(w *api.Whales) { w.Sights[0].X = one(-1) }, api.ErrRange},
		"X 0":                          {func(w *api.Whales) { w.Sights[0].X.Lo = 0 }, api.OK},
		"X 10":                         {func(w *api.Whales) { w.Sights[1].X.Hi = 10 }, api.ErrRange},
		"X 10 twice":                   {func(w *api.Whales) { w.Sights[1].X = one(10) }, api.ErrRange},
		"X 10..9":                      {func(w *api.Whales) { w.Sights[1].X.Lo = 10 }, api.ErrRange},
		"rows -1":                      {func(w *api.Whales) { w.Sights[0].Rows.Lo = -1 }, api.ErrRange},
		"rows 0..-1":                   {func(w *api.Whales) { w.Sights[0].Rows.Hi = -1 }, api.ErrRange},
		"rows 4":                       {func(w *api.Whales) { w.Sights[1].Rows.Hi = 4 }, api.ErrRange},
		"rows 4 twice":                 {func(w *api.Whales) { w.Sights[1].Rows = one(4) }, api.ErrRange},
		"X backwards":                  {func(w *api.Whales) { w.Sights[0].X = span(3, 2) }, api.ErrOrder},
		"rows backwards":               {func(w *api.Whales) { w.Sights[1].Rows = span(3, 2) }, api.ErrOrder},
		"X backwards, rows 4":          {func(w *api.Whales) { w.Sights[1].X, w.Sights[1].Rows = span(3, 2), one(4) }, api.ErrRange},
		"X backwards, then whale 1":    {func(w *api.Whales) { w.Sights[0].X, w.Sights[1].Whale = span(3, 2), 1 }, api.ErrOrder},
		"too far, then whale 1":        {func(w *api.Whales) { w.Speed = 0; w.Sights = append(w.Sights, seen(1, 0, one(0), one(0))) }, api.ErrMissing},
	}
}

// P6.1: Check names the first error of the whales; Reach, Shut, Meet, Danger and Haul name it, too, before all others.
func TestCheck(t *testing.T) {
	for name, c := range whaleErrors() {
		w := changedWhales(c.change)
		if e := whale.Check(exampleBay(), w); e != c.want {
			t.Errorf("%s: Check returns %d, not %d", name, e, c.want)
		}
		if c.want == api.OK {
			continue
		}
		_, _, reach := whale.Reach(exampleBay(), w, -1, -1)
		_, shut := whale.Shut(exampleBay(), w, -1, -1)
		_, meet := whale.Meet(exampleBay(), w, api.Fleet{Tags: []int{7}}, nil, -1)
		_, danger := whale.Danger(exampleBay(), w, api.Fleet{Tags: []int{7}}, nil, nil, 0, -1)
		_, haul := whale.Haul(exampleBay(), w, api.Fleet{Tags: []int{7}}, nil, nil, 0, -1, -1)
		for i, e := range []api.Errno{reach, shut, meet, danger, haul} {
			if e != c.want {
				t.Errorf("%s: call %d returns %d, not %d", name, i, e, c.want)
			}
		}
	}
}

// P6.1: an error of the bay is named before that of the whales, and by Codes.
func TestBay(t *testing.T) {
	wrong := api.Whales{Many: -1}
	for want, b := range map[api.Errno]api.Bay{
		api.ErrRange: {Wide: 201, Deep: 4, Gangs: 1},
		api.ErrForm:  {Wide: 10, Deep: 4, Gangs: 2},
		api.ErrFull:  {Wide: 10, Deep: 4, Gangs: 1, Customs: make([]api.Custom, 31)},
		api.ErrClash: {Wide: 2, Deep: 1, Gangs: 3, Lines: [][]int{{1}, {0}}},
	} {
		if e := whale.Check(b, wrong); e != want {
			t.Errorf("Check returns %d, not %d", e, want)
		}
		if _, _, e := whale.Reach(b, wrong, 0, 0); e != want {
			t.Errorf("Reach returns %d, not %d", e, want)
		}
		if _, e := whale.Codes(b, make([]api.Cell, 10), -1); e != want {
			t.Errorf("Codes returns %d, not %d", e, want)
		}
	}
}

// P6.1: which whale, and which day.
func TestReach(t *testing.T) {
	two := changedWhales(func(w *api.Whales) { w.Many = 2 })
	for name, c := range map[string]struct {
		w          api.Whales
		whale, day int
		x, rows    api.Span
		want       api.Errno
	}{
		"day 10":                     {exampleWhales(), 0, 10, span(2, 3), one(0), api.OK},
		"day 11":                     {exampleWhales(), 0, 11, span(3, 5), span(0, 2), api.OK},
		"day 12":                     {exampleWhales(), 0, 12, span(5, 7), span(0, 3), api.OK},
		"day 13":                     {exampleWhales(), 0, 13, span(7, 9), span(2, 3), api.OK},
		"day 14":                     {exampleWhales(), 0, 14, span(5, 9), span(0, 3), api.OK},
		"day 9":                      {exampleWhales(), 0, 9, span(0, 5), span(0, 2), api.OK},
		"day 0":                      {exampleWhales(), 0, 0, span(0, 9), span(0, 3), api.OK},
		"day 36499":                  {exampleWhales(), 0, 36499, span(0, 9), span(0, 3), api.OK},
		"never seen":                 {two, 1, 11, span(0, 9), span(0, 3), api.OK},
		"the other one":              {two, 0, 11, span(3, 5), span(0, 2), api.OK},
		"whale -1":                   {exampleWhales(), -1, 11, api.Span{}, api.Span{}, api.ErrMissing},
		"whale 1":                    {exampleWhales(), 1, 11, api.Span{}, api.Span{}, api.ErrMissing},
		"whale 2 of 2":               {two, 2, 11, api.Span{}, api.Span{}, api.ErrMissing},
		"whale 0 of none":            {api.Whales{}, 0, 11, api.Span{}, api.Span{}, api.ErrMissing},
		"whale 1, day -1":            {exampleWhales(), 1, -1, api.Span{}, api.Span{}, api.ErrMissing},
		"day -1":                     {exampleWhales(), 0, -1, api.Span{}, api.Span{}, api.ErrRange},
		"day 36500":                  {exampleWhales(), 0, 36500, api.Span{}, api.Span{}, api.ErrRange},
		"seen in one cell":           {api.Whales{Many: 1, Sights: []api.Sight{seen(0, 0, one(4), one(3))}}, 0, 36499, one(4), one(3), api.OK},
		"seen from the first day":    {api.Whales{Many: 1, Speed: 1, Sights: []api.Sight{seen(0, 0, one(0), one(0))}}, 0, 3, span(0, 3), span(0, 3), api.OK},
		"seen on the last day":       {api.Whales{Many: 1, Speed: 1, Sights: []api.Sight{seen(0, 36499, one(9), one(3))}}, 0, 36496, span(6, 9), span(0, 3), api.OK},
		"seen between other sights":  {changedWhales(func(w *api.Whales) { w.Sights = append(w.Sights, seen(0, 12, one(7), one(0))) }), 0, 11, one(5), span(0, 2), api.OK},
		"seen where it is on a line": {changedWhales(func(w *api.Whales) { w.Sights[0].X, w.Sights[1].X = one(1), one(7) }), 0, 12, one(5), span(0, 3), api.OK},
	} {
		x, rows, e := whale.Reach(exampleBay(), c.w, c.whale, c.day)
		if x != c.x || rows != c.rows || e != c.want {
			t.Errorf("%s: Reach returns %v %v %d", name, x, rows, e)
		}
	}
}

// P6.2: guards, days, and spans as few as can be.
func TestShut(t *testing.T) {
	row := func(spans ...api.Span) []api.Span { return spans }
	four := func(spans ...api.Span) [][]api.Span { return slices.Repeat([][]api.Span{spans}, 4) }
	still := func(sights ...api.Sight) api.Whales {
		for i := range sights {
			sights[i].Whale = i
		}
		return api.Whales{Many: len(sights), Sights: sights}
	}
	for name, c := range map[string]struct {
		w          api.Whales
		guard, day int
		shut       [][]api.Span
		want       api.Errno
	}{
		"guard 0":                  {exampleWhales(), 0, 10, [][]api.Span{row(span(2, 3)), nil, nil, nil}, api.OK},
		"guard 1":                  {exampleWhales(), 1, 10, [][]api.Span{row(span(1, 4)), row(span(1, 4)), nil, nil}, api.OK},
		"guard 1, day 12":          {exampleWhales(), 1, 12, four(span(4, 8)), api.OK},
		"guard 2, to the left end": {exampleWhales(), 2, 10, [][]api.Span{row(span(0, 5)), row(span(0, 5)), row(span(0, 5)), nil}, api.OK},
		"guard 50":                 {exampleWhales(), 50, 10, four(span(0, 9)), api.OK},
		"guard 51":                 {exampleWhales(), 51, 10, nil, api.ErrRange},
		"guard -1":                 {exampleWhales(), -1, 10, nil, api.ErrRange},
		"day -1":                   {exampleWhales(), 0, -1, nil, api.ErrRange},
		"day 0":                    {exampleWhales(), 0, 0, four(span(0, 9)), api.OK},
		"day 36499":                {exampleWhales(), 0, 36499, four(span(0, 9)), api.OK},
		"day 36500":                {exampleWhales(), 0, 36500, nil, api.ErrRange},
		"no whale":                 {api.Whales{}, 50, 10, four(), api.OK},
		"whales side by side":      {still(seen(0, 0, span(4, 5), span(0, 1)), seen(0, 0, span(2, 3), span(1, 2))), 0, 9, [][]api.Span{row(span(4, 5)), row(span(2, 5)), row(span(2, 3)), nil}, api.OK},
		"a column between them":    {still(seen(0, 0, span(5, 6), span(0, 1)), seen(0, 0, span(2, 3), span(1, 2))), 0, 9, [][]api.Span{row(span(5, 6)), row(span(2, 3), span(5, 6)), row(span(2, 3)), nil}, api.OK},
		"one within another one":   {still(seen(0, 0, span(1, 8), one(0)), seen(0, 0, span(3, 4), one(0)), seen(0, 0, one(9), one(0))), 0, 9, [][]api.Span{row(span(1, 9)), nil, nil, nil}, api.OK},
		"one fills the gap":        {still(seen(0, 0, one(0), one(3)), seen(0, 0, one(2), one(3)), seen(0, 0, one(1), one(3)), seen(0, 0, one(4), one(3))), 0, 9, [][]api.Span{nil, nil, nil, row(span(0, 2), one(4))}, api.OK},
		"two in one place":         {still(seen(0, 0, one(9), one(3)), seen(0, 0, one(9), one(3))), 1, 9, [][]api.Span{nil, nil, row(span(8, 9)), row(span(8, 9))}, api.OK},
	} {
		shut, e := whale.Shut(exampleBay(), c.w, c.guard, c.day)
		if e != c.want || !slices.EqualFunc(shut, c.shut, slices.Equal) {
			t.Errorf("%s: Shut returns %v %d", name, shut, e)
		}
	}
}
