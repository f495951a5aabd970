package stock_test

import (
	"testing"

	"homarus/api"
	"homarus/stock"
)

// exampleRule is the rule R of the chapter's examples.
func exampleRule() api.Rule {
	return api.Rule{Class: 1, Point: 40, Part: 500000, Cap: 100, Live: span(900000, 950000)}
}

// ruled returns the rule R with a change.
func ruled(change func(r *api.Rule)) api.Rule {
	r := exampleRule()
	change(&r)
	return r
}

// ruleErrors are changes of the rule R, and the first error that it has then; Quota does not look at the class.
func ruleErrors() map[string]struct {
	change      func(r *api.Rule)
	want, quota api.Errno
} {
	return map[string]struct {
		change      func(r *api.Rule)
		want, quota api.Errno
	}{
		"R":                      {func(r *api.Rule) {}, api.OK, api.OK},
		"nothing at all":         {func(r *api.Rule) { *r = api.Rule{} }, api.OK, api.OK},
		"Class -1":               {func(r *api.Rule) { r.Class = -1 }, api.ErrRange, api.OK},
		"Class 0":                {func(r *api.Rule) { r.Class = 0 }, api.OK, api.OK},
		"Class 2":                {func(r *api.Rule) { r.Class = 2 }, api.OK, api.OK},
		"Class 3":                {func(r *api.Rule) { r.Class = 3 }, api.ErrRange, api.OK},
		"Class 3, Live":          {func(r *api.Rule) { r.Class, r.Live.Lo = 3, 950001 }, api.ErrRange, api.ErrOrder},
		"Point -1":               {func(r *api.Rule) { r.Point = -1 }, api.ErrRange, api.ErrRange},
		"Point 0":                {func(r *api.Rule) { r.Point = 0 }, api.OK, api.OK},
		"Point at most":          {func(r *api.Rule) { r.Point = most }, api.OK, api.OK},
		"Point above":            {func(r *api.Rule) { r.Point = most + 1 }, api.ErrRange, api.ErrRange},
		"Point above, Live":      {func(r *api.Rule) { r.Point, r.Live.Lo = most+1, 950001 }, api.ErrRange, api.ErrRange},
		"Cap -1":                 {func(r *api.Rule) { r.Cap = -1 }, api.ErrRange, api.ErrRange},
		"Cap 0":                  {func(r *api.Rule) { r.Cap = 0 }, api.OK, api.OK},
		"Cap at most":            {func(r *api.Rule) { r.Cap = most }, api.OK, api.OK},
		"Cap above":              {func(r *api.Rule) { r.Cap = most + 1 }, api.ErrRange, api.ErrRange},
		"Cap -1, Live":           {func(r *api.Rule) { r.Cap, r.Live.Lo = -1, 950001 }, api.ErrRange, api.ErrRange},
		"Part -1":                {func(r *api.Rule) { r.Part = -1 }, api.ErrRange, api.ErrRange},
		"Part 0":                 {func(r *api.Rule) { r.Part = 0 }, api.OK, api.OK},
		"Part Mil":               {func(r *api.Rule) { r.Part = api.Mil }, api.OK, api.OK},
		"Part above":             {func(r *api.Rule) { r.Part = api.Mil + 1 }, api.ErrRange, api.ErrRange},
		"Part above, Live":       {func(r *api.Rule) { r.Part, r.Live.Lo = api.Mil+1, 950001 }, api.ErrRange, api.ErrRange},
		"Live from -1":           {func(r *api.Rule) { r.Live.Lo = -1 }, api.ErrRange, api.ErrRange},
		"Live 0..0":              {func(r *api.Rule) { r.Live = one(0) }, api.OK, api.OK},
		"Live Mil..Mil":          {func(r *api.Rule) { r.Live = one(api.Mil) }, api.OK, api.OK},
		"Live to above":          {func(r *api.Rule) { r.Live.Hi = api.Mil + 1 }, api.ErrRange, api.ErrRange},
		"Live backwards":         {func(r *api.Rule) { r.Live.Lo = 950001 }, api.ErrOrder, api.ErrOrder},
		"Live backwards, and -1": {func(r *api.Rule) { r.Live.Hi = -1 }, api.ErrRange, api.ErrRange},
	}
}

// P5.5: each error of a rule, at both ends of each bound, and which one comes first (R1): before that of the number, of the year, and of an empty set.
func TestRuleErrors(t *testing.T) {
	empty := changed(func(s *api.Stock) { s.Signs[2].Number = one(101) })
	for name, c := range ruleErrors() {
		r := ruled(c.change)
		if q, e := stock.Quota(r, 61); e != c.quota || e != api.OK && q != 0 {
			t.Errorf("%s: Quota returns %d %d, not %d", name, q, e, c.quota)
		}
		if q, e := stock.Quota(r, -1); q != 0 || e == api.OK || c.quota != api.OK && e != c.quota {
			t.Errorf("%s: Quota of -1 returns %d %d", name, q, e)
		}
		if v, n, e := stock.Keep(example(), r, 0); e != c.want || e != api.OK && (v != 0 || n != 0) {
			t.Errorf("%s: Keep returns %d %d %d, not %d", name, v, n, e, c.want)
		}
		if n, e := stock.Safe(example(), r, 1); e != c.want && !(c.want == api.OK && e == api.ErrMissing) || e != api.OK && n != 0 {
			t.Errorf("%s: Safe returns %d %d, not %d", name, n, e, c.want)
		}
		for year := -1; year <= 2; year++ {
			want := c.want
			if want == api.OK && (year < 0 || year > 1) {
				want = api.ErrRange
			}
			if want == api.OK {
				want = api.ErrClash
			}
			if v, n, e := stock.Keep(empty, r, year); v != 0 || n != 0 || e != want {
				t.Errorf("%s: of the empty set Keep(%d) returns %d %d %d, not %d", name, year, v, n, e, want)
			}
			if n, e := stock.Safe(empty, r, year); n != 0 || e != want {
				t.Errorf("%s: of the empty set Safe(%d) returns %d %d, not %d", name, year, n, e, want)
			}
		}
	}
}

// P5.5, R7: quotas; nothing is landed up to the point.
func TestQuota(t *testing.T) {
	for name, c := range map[string]struct {
		r       api.Rule
		n, want int
		e       api.Errno
	}{
		"-1":                  {exampleRule(), -1, 0, api.ErrRange},
		"0":                   {exampleRule(), 0, 0, api.OK},
		"39":                  {exampleRule(), 39, 0, api.OK},
		"40":                  {exampleRule(), 40, 0, api.OK},
		"41":                  {exampleRule(), 41, 0, api.OK},
		"42":                  {exampleRule(), 42, 1, api.OK},
		"61":                  {exampleRule(), 61, 10, api.OK},
		"239":                 {exampleRule(), 239, 99, api.OK},
		"240":                 {exampleRule(), 240, 100, api.OK},
		"1000":                {exampleRule(), 1000, 100, api.OK},
		"most":                {exampleRule(), most, 100, api.OK},
		"above":               {exampleRule(), most + 1, 0, api.ErrRange},
		"a third, down":       {api.Rule{Part: 333333, Cap: most}, 1000, 333, api.OK},
		"two thirds, down":    {api.Rule{Part: 666667, Cap: most}, 1000, 666, api.OK},
		"all":                 {api.Rule{Part: api.Mil, Cap: most}, most, most, api.OK},
		"all but one":         {api.Rule{Part: 999999, Cap: most}, most, 999999000, api.OK},
		"all above the point": {api.Rule{Point: 7, Part: api.Mil, Cap: most}, most, most - 7, api.OK},
		"none":                {api.Rule{Part: 0, Cap: most}, most, 0, api.OK},
		"no cap at all":       {api.Rule{Part: api.Mil, Cap: 0}, most, 0, api.OK},
		"one above the point": {api.Rule{Point: most - 1, Part: api.Mil, Cap: most}, most, 1, api.OK},
	} {
		if q, e := stock.Quota(c.r, c.n); q != c.want || e != c.e {
			t.Errorf("%s: Quota returns %d %d, not %d %d", name, q, e, c.want, c.e)
		}
	}
}

// P5.5: whether the point is kept, and from which number on; the examples, and both ends.
func TestKeep(t *testing.T) {
	in := func(low, high int) api.Stock { return calm(2, 0, counted(0, 1, 1, low, high)) }
	half := api.Rule{Class: 1, Point: 40, Part: 500000, Cap: most, Live: one(900000)}
	for name, c := range map[string]struct {
		s                    api.Stock
		r                    api.Rule
		year, verdict, least int
	}{
		"the example":              {example(), exampleRule(), 0, api.Open, 49},
		"a year later":             {example(), exampleRule(), 1, api.Sure, 70},
		"Point 2000":               {example(), ruled(func(r *api.Rule) { r.Point = 2000 }), 0, api.Never, -1},
		"up to the least":          {in(0, 49), half, 0, api.Open, 49},
		"below the least":          {in(0, 48), half, 0, api.Never, -1},
		"from the least on":        {in(49, 49), half, 0, api.Sure, 49},
		"below it alone":           {in(48, 48), half, 0, api.Never, -1},
		"from below the least on":  {in(48, 49), half, 0, api.Open, 49},
		"no point":                 {in(0, 9), api.Rule{Class: 1, Part: api.Mil, Cap: most}, 0, api.Sure, 0},
		"none lives":               {in(0, most), api.Rule{Class: 1, Point: 1, Live: span(0, api.Mil)}, 0, api.Never, -1},
		"all live":                 {in(0, most), api.Rule{Class: 1, Point: most, Part: api.Mil, Cap: most, Live: one(api.Mil)}, 0, api.Open, most},
		"one in a million lives":   {in(0, most), api.Rule{Class: 1, Point: 1000, Part: api.Mil, Cap: most, Live: one(1)}, 0, api.Never, -1},
		"without landings":         {in(0, most), api.Rule{Class: 1, Point: 1000, Part: 0, Cap: most, Live: one(1)}, 0, api.Open, most},
		"with a cap":               {in(0, most), api.Rule{Class: 1, Point: 999, Part: api.Mil, Cap: 7, Live: one(1)}, 0, api.Open, 999000007},
		"all above it are landed":  {in(0, 100), api.Rule{Class: 1, Point: 40, Part: api.Mil, Cap: most, Live: one(api.Mil)}, 0, api.Open, 40},
		"all of them, some die":    {in(0, 100), api.Rule{Class: 1, Point: 40, Part: api.Mil, Cap: most, Live: one(999999)}, 0, api.Never, -1},
		"a class and greater ones": {calm(3, 0, counted(0, 1, 1, 30, 30), counted(0, 2, 2, 19, 25)), half, 0, api.Sure, 49},
		"and no smaller ones":      {calm(3, 0, counted(0, 0, 0, 30, 30), counted(0, 1, 2, 19, 25)), half, 0, api.Never, -1},
		"Live as little as it may": {in(49, 49), api.Rule{Class: 1, Point: 40, Part: 500000, Cap: most, Live: span(880000, api.Mil)}, 0, api.Never, -1},
	} {
		if v, n, e := stock.Keep(c.s, c.r, c.year); v != c.verdict || n != c.least || e != api.OK {
			t.Errorf("%s: Keep returns %d %d %d, not %d %d", name, v, n, e, c.verdict, c.least)
		}
	}
}

// P5.5: how many can be landed safely; the examples, and both ends.
func TestSafe(t *testing.T) {
	in := func(low, high int) api.Stock { return calm(2, 0, counted(0, 1, 1, low, high)) }
	rule := func(point, live int) api.Rule { return api.Rule{Class: 1, Point: point, Live: span(live, api.Mil)} }
	for name, c := range map[string]struct {
		s          api.Stock
		r          api.Rule
		year, want int
		e          api.Errno
	}{
		"the example":              {example(), exampleRule(), 1, 25, api.OK},
		"a year before":            {example(), exampleRule(), 0, 0, api.ErrMissing},
		"just enough":              {in(45, 90), exampleRule(), 0, 0, api.OK},
		"one more":                 {in(46, 90), exampleRule(), 0, 1, api.OK},
		"one less":                 {in(44, 90), exampleRule(), 0, 0, api.ErrMissing},
		"no point":                 {in(45, 90), rule(0, 900000), 0, 45, api.OK},
		"no point, none lives":     {in(45, 90), rule(0, 0), 0, 45, api.OK},
		"no point, and no animals": {in(0, 0), rule(0, 0), 0, 0, api.OK},
		"none lives":               {in(45, 90), rule(1, 0), 0, 0, api.ErrMissing},
		"all live":                 {in(45, 90), rule(40, api.Mil), 0, 5, api.OK},
		"one in a million lives":   {in(2999999, most), rule(1, 1), 0, 1999999, api.OK},
		"all that there may be":    {in(most, most), rule(most, api.Mil), 0, 0, api.OK},
		"all of them":              {in(most, most), rule(0, api.Mil), 0, most, api.OK},
		"Part and Cap are nothing": {in(50, 50), api.Rule{Class: 1, Point: 10, Live: one(api.Mil)}, 0, 40, api.OK},
		"a class and greater ones": {calm(3, 0, counted(0, 1, 1, 30, 30), counted(0, 2, 2, 19, 25)), rule(40, api.Mil), 0, 9, api.OK},
	} {
		if n, e := stock.Safe(c.s, c.r, c.year); n != c.want || e != c.e {
			t.Errorf("%s: Safe returns %d %d, not %d %d", name, n, e, c.want, c.e)
		}
	}
}
