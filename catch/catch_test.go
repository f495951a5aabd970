package catch_test

import (
	"math"
	"slices"
	"testing"

	"homarus/api"
	"homarus/catch"
)

func span(low, high int) api.Span { return api.Span{Lo: low, Hi: high} }

func one(n int) api.Span { return span(n, n) }

const y, n, o = api.Sure, api.Never, api.Open

// gaugeG, femaleA, maleM and femaleN are the gauge and the animals of the chapter's examples.
func gaugeG() api.Gauge { return api.Gauge{Low: 830, High: 1270, Eggs: true, Notch: true} }

func femaleA() api.Caught {
	return api.Caught{Size: span(825, 835), Sex: api.Female, Eggs: n, Notch: n, Shell: api.ShellHard}
}

func maleM() api.Caught {
	return api.Caught{Size: one(900), Sex: api.Male, Eggs: n, Notch: n, Shell: api.ShellSoft}
}

func femaleN() api.Caught {
	return api.Caught{Size: span(950, 960), Sex: api.Female, Eggs: y, Notch: o, Shell: api.ShellHard}
}

// gaugeWith returns the gauge G with a change.
func gaugeWith(change func(g *api.Gauge)) api.Gauge {
	g := gaugeG()
	change(&g)
	return g
}

// with returns an animal with a change.
func with(c api.Caught, change func(c *api.Caught)) api.Caught {
	change(&c)
	return c
}

// sized returns a female like A of some sizes.
func sized(low, high int) api.Caught {
	return with(femaleA(), func(c *api.Caught) { c.Size = span(low, high) })
}

// gaugeErrors are gauges, and the first error of each.
func gaugeErrors() map[api.Gauge]api.Errno {
	return map[api.Gauge]api.Errno{
		gaugeG():                             api.OK,
		{}:                                   api.OK,
		{Low: 0, High: 2500}:                 api.OK,
		{Low: 2500, High: 2500, Soft: true}:  api.OK,
		{Low: 1300, High: 1270}:              api.ErrOrder,
		{Low: 1, High: 0}:                    api.ErrOrder,
		{Low: 1271, High: 1270, Notch: true}: api.ErrOrder,
		{Low: -1, High: 1270}:                api.ErrRange,
		{Low: 0, High: -1}:                   api.ErrRange,
		{Low: 0, High: 2501}:                 api.ErrRange,
		{Low: 2501, High: 2501}:              api.ErrRange,
		{Low: 2501, High: 7}:                 api.ErrRange,
		{Low: 7, High: -1}:                   api.ErrRange,
		{Low: math.MinInt, High: 7}:          api.ErrRange,
		{Low: 7, High: math.MaxInt}:          api.ErrRange,
	}
}

// caughtErrors are animals, and the first error of each.
func caughtErrors() map[api.Caught]api.Errno {
	all := map[api.Caught]api.Errno{femaleA(): api.OK, maleM(): api.OK, femaleN(): api.OK, {}: api.ErrKind}
	add := func(c api.Caught, want api.Errno, changes ...func(c *api.Caught)) {
		for _, change := range changes {
			change(&c)
		}
		all[c] = want
	}
	size := func(low, high int) func(c *api.Caught) { return func(c *api.Caught) { c.Size = span(low, high) } }
	sex := func(sex int) func(c *api.Caught) { return func(c *api.Caught) { c.Sex = sex } }
	eggs := func(verdict int) func(c *api.Caught) { return func(c *api.Caught) { c.Eggs = verdict } }
	notch := func(verdict int) func(c *api.Caught) { return func(c *api.Caught) { c.Notch = verdict } }
	shell := func(shell int) func(c *api.Caught) { return func(c *api.Caught) { c.Shell = shell } }
	for _, c := range []api.Caught{femaleA(), maleM()} {
		add(c, api.OK, size(0, 0))
		add(c, api.OK, size(0, 2500))
		add(c, api.OK, size(2500, 2500))
		add(c, api.ErrRange, size(-1, 5))
		add(c, api.ErrRange, size(5, 2501))
		add(c, api.ErrRange, size(2501, 5))
		add(c, api.ErrRange, size(5, -1))
		add(c, api.ErrRange, size(math.MinInt, math.MaxInt))
		add(c, api.ErrRange, size(5, -1), sex(0), eggs(0), shell(0))
		add(c, api.ErrOrder, size(5, 4))
		add(c, api.ErrOrder, size(5, 4), sex(0), eggs(0), shell(0))
		add(c, api.ErrKind, sex(0))
		add(c, api.ErrKind, sex(3))
		add(c, api.ErrKind, sex(-1), shell(0))
		for _, wrong := range []int{0, 4, -1, math.MaxInt} {
			add(c, api.ErrKind, eggs(wrong))
			add(c, api.ErrKind, notch(wrong))
			add(c, api.ErrKind, shell(wrong))
		}
		for _, right := range []int{api.ShellHard, api.ShellSoft, api.ShellOld} {
			add(c, api.OK, shell(right))
		}
	}
	for _, verdict := range []int{y, o} {
		add(maleM(), api.ErrClash, eggs(verdict))
		add(maleM(), api.ErrClash, notch(verdict))
		add(maleM(), api.ErrClash, eggs(verdict), notch(verdict), shell(4))
		add(maleM(), api.ErrKind, eggs(verdict), notch(4))
		add(maleM(), api.ErrKind, eggs(0), notch(verdict))
	}
	for _, a := range []int{y, n, o} {
		for _, b := range []int{y, n, o} {
			add(femaleA(), api.OK, eggs(a), notch(b))
			add(femaleA(), api.ErrKind, eggs(a), notch(b), sex(4))
		}
	}
	return all
}

// P4.1: the errors of gauges and of animals, in their order.
func TestCheck(t *testing.T) {
	for g, want := range gaugeErrors() {
		if e := catch.Check(g); e != want {
			t.Errorf("Check(%v) returns %d, not %d", g, e, want)
		}
	}
	for c, want := range caughtErrors() {
		if e := catch.CheckCaught(c); e != want {
			t.Errorf("CheckCaught(%v) returns %d, not %d", c, e, want)
		}
	}
}

// P4.1: Reasons and Keep return the error of the gauge, then that of the animal.
func TestReasonsErrors(t *testing.T) {
	for g, first := range gaugeErrors() {
		for c, want := range caughtErrors() {
			if first != api.OK {
				want = first
			}
			reasons, e := catch.Reasons(g, c)
			keep, f := catch.Keep(g, c)
			if e != want || f != want || (e == api.OK) != (len(reasons) == 5) || (e == api.OK) != (keep != 0) {
				t.Errorf("%v, %v: Reasons returns %v %d, Keep %d %d, not %d", g, c, reasons, e, keep, f, want)
			}
		}
	}
}

// reasonCase is a gauge, an animal, the verdicts on the reasons, and the one on whether it may be kept.
type reasonCase struct {
	g       api.Gauge
	c       api.Caught
	reasons []int
	keep    int
}

func reasonCases() map[string]reasonCase {
	g := gaugeG()
	soft := gaugeWith(func(g *api.Gauge) { g.Soft = true })
	bare := api.Gauge{Low: 830, High: 1270}
	all := api.Gauge{Low: 830, High: 1270, Eggs: true, Notch: true, Soft: true}
	point := api.Gauge{Low: 900, High: 900}
	marked := with(femaleN(), func(c *api.Caught) { c.Eggs, c.Notch, c.Shell = y, y, api.ShellSoft })
	unclear := with(femaleN(), func(c *api.Caught) { c.Eggs, c.Notch = o, o })
	return map[string]reasonCase{
		"A":                          {g, femaleA(), []int{o, n, n, n, n}, o},
		"M":                          {g, maleM(), []int{n, n, n, n, n}, y},
		"N":                          {g, femaleN(), []int{n, n, y, o, n}, n},
		"M, soft ones go back":       {soft, maleM(), []int{n, n, n, n, y}, n},
		"A, soft ones go back":       {soft, femaleA(), []int{o, n, n, n, n}, o},
		"an old shell is not soft":   {soft, with(maleM(), func(c *api.Caught) { c.Shell = api.ShellOld }), []int{n, n, n, n, n}, y},
		"the least size":             {g, sized(830, 830), []int{n, n, n, n, n}, y},
		"below the least size":       {g, sized(829, 829), []int{y, n, n, n, n}, n},
		"from below the least size":  {g, sized(829, 830), []int{o, n, n, n, n}, o},
		"up to the least size":       {g, sized(0, 830), []int{o, n, n, n, n}, o},
		"all sizes below":            {g, sized(0, 829), []int{y, n, n, n, n}, n},
		"the greatest size":          {g, sized(1270, 1270), []int{n, n, n, n, n}, y},
		"above the greatest size":    {g, sized(1271, 1271), []int{n, y, n, n, n}, n},
		"up to above the greatest":   {g, sized(1270, 1271), []int{n, o, n, n, n}, o},
		"all sizes above":            {g, sized(1271, 2500), []int{n, y, n, n, n}, n},
		"all sizes that may be kept": {g, sized(830, 1270), []int{n, n, n, n, n}, y},
		"all sizes":                  {g, sized(0, 2500), []int{o, o, n, n, n}, o},
		"from both sides of a point": {point, sized(899, 901), []int{o, o, n, n, n}, o},
		"the point":                  {point, sized(900, 900), []int{n, n, n, n, n}, y},
		"no size is too small":       {api.Gauge{High: 2500}, sized(0, 2500), []int{n, n, n, n, n}, y},
		"size 0 is too large for 0":  {api.Gauge{}, sized(0, 1), []int{n, o, n, n, n}, o},
		"the greatest of all":        {api.Gauge{Low: 2500, High: 2500}, sized(2499, 2500), []int{o, n, n, n, n}, o},
		"nothing is set":             {bare, marked, []int{n, n, n, n, n}, y},
		"all are set":                {all, marked, []int{n, n, y, y, y}, n},
		"Eggs alone":                 {api.Gauge{Low: 830, High: 1270, Eggs: true}, marked, []int{n, n, y, n, n}, n},
		"Notch alone":                {api.Gauge{Low: 830, High: 1270, Notch: true}, marked, []int{n, n, n, y, n}, n},
		"Soft alone":                 {api.Gauge{Low: 830, High: 1270, Soft: true}, marked, []int{n, n, n, n, y}, n},
		"eggs and notch are open":    {g, unclear, []int{n, n, o, o, n}, o},
		"Eggs alone, open":           {api.Gauge{Low: 830, High: 1270, Eggs: true}, unclear, []int{n, n, o, n, n}, o},
		"Notch alone, open":          {api.Gauge{Low: 830, High: 1270, Notch: true}, unclear, []int{n, n, n, o, n}, o},
		"open, but surely small":     {g, with(unclear, func(c *api.Caught) { c.Size = one(5) }), []int{y, n, o, o, n}, n},
		"everything is open":         {all, with(unclear, func(c *api.Caught) { c.Size = span(0, 2500) }), []int{o, o, o, o, n}, o},
	}
}

// P4.1: the verdicts on the reasons, and on whether an animal may be kept.
func TestReasons(t *testing.T) {
	for name, c := range reasonCases() {
		if l, e := catch.Reasons(c.g, c.c); e != api.OK || !slices.Equal(l, c.reasons) {
			t.Errorf("%s: Reasons returns %v %d, not %v", name, l, e, c.reasons)
		}
		if k, e := catch.Keep(c.g, c.c); e != api.OK || k != c.keep {
			t.Errorf("%s: Keep returns %d %d, not %d", name, k, e, c.keep)
		}
	}
}
