package catch_test

import (
	"slices"
	"testing"

	"homarus/api"
	"homarus/catch"
)

// honestCase is two lists, and what Honest says of them.
type honestCase struct {
	sea, dock    []api.Caught
	verdict      int
	pairs, proof []int
}

// sizedAll returns females of some sizes.
func sizedAll(sizes ...api.Span) []api.Caught {
	var list []api.Caught
	for _, s := range sizes {
		list = append(list, sized(s.Lo, s.Hi))
	}
	return list
}

func honestCases() map[string]honestCase {
	a, m := femaleA(), maleM()
	list := func(l ...api.Caught) []api.Caught { return l }
	twelve, turned := []int{0, 1, 2, 3, 4, 5, 6, 7, 8, 9, 10, 11}, []int{1, 2, 3, 4, 5, 6, 7, 8, 9, 10, 11, 0}
	wide := slices.Repeat(list(sized(0, 2500)), 12)
	// Twelve of the sizes 0 to 11, and twelve with a size more each; the last one can just be the first one, and so each other one is the next one.
	var points, steps []api.Caught
	for i := range 12 {
		points, steps = append(points, sized(i, i)), append(steps, sized(i, i+1))
	}
	turn := append(steps[:11:11], sized(0, 0))
	return map[string]honestCase{
		"example, changed about":      {list(a, m), list(m, a), o, []int{1, 0}, nil},
		"example, two for one":        {list(a, m), list(a, a), n, nil, []int{0, 1}},
		"example, one for none":       {list(m, m), list(a, m), n, nil, []int{0}},
		"example, more than caught":   {list(m), list(m, m), n, nil, nil},
		"less than caught":            {list(m, m), list(m), n, nil, nil},
		"none of one":                 {list(m), nil, n, nil, nil},
		"one of none":                 {nil, list(m), n, nil, nil},
		"other lists of two lengths":  {list(a, a), list(m), n, nil, nil},
		"none of none":                {nil, nil, o, nil, nil},
		"one":                         {list(a), list(a), o, []int{0}, nil},
		"the first pairs":             {list(a, a, a), list(a, a, a), o, []int{0, 1, 2}, nil},
		"the first one has to wait":   {sizedAll(span(0, 9), span(10, 19)), sizedAll(span(0, 19), span(0, 9)), o, []int{1, 0}, nil},
		"one has one alone":           {sizedAll(span(0, 9), span(10, 19), span(5, 14)), sizedAll(span(0, 19), span(0, 4), span(16, 19)), o, []int{2, 0, 1}, nil},
		"two males, one female":       {list(m, a), list(m, m), n, nil, []int{0, 1}},
		"the first one alone":         {sizedAll(one(5), one(6), one(7)), sizedAll(one(6), one(8), one(9)), n, nil, []int{1}},
		"the smallest proof is last":  {sizedAll(one(5), one(5), one(6), one(7)), sizedAll(one(6), one(6), one(5), one(8)), n, nil, []int{3}},
		"of two twos the first":       {sizedAll(one(5), one(6), one(7), one(8)), sizedAll(one(6), one(5), one(5), one(6)), n, nil, []int{0, 3}},
		"a two before a three":        {sizedAll(one(5), one(6), one(7), one(8), one(9)), sizedAll(span(5, 6), span(5, 6), span(5, 6), one(9), one(9)), n, nil, []int{3, 4}},
		"three for two":               {sizedAll(one(5), one(6), one(7)), sizedAll(span(5, 6), span(5, 6), span(5, 6)), n, nil, []int{0, 1, 2}},
		"three for two, and a wide":   {sizedAll(one(5), one(6), one(7), one(8)), sizedAll(span(5, 8), span(5, 6), span(5, 6), span(5, 6)), n, nil, []int{1, 2, 3}},
		"twelve that are alike":       {wide, wide, o, twelve, nil},
		"twelve of one size each":     {points, points, o, twelve, nil},
		"twelve of two sizes each":    {points, steps, o, twelve, nil},
		"twelve, each the next one":   {points, turn, o, turned, nil},
		"twelve for eleven":           {append(slices.Repeat(list(sized(0, 5)), 11), a), slices.Repeat(list(sized(0, 5)), 12), n, nil, twelve},
		"twelve, not one too many":    {append(points[:11:11], sized(99, 99)), turn, n, nil, twelve},
		"twelve wide ones, one is M":  {append(wide[:11:11], m), append(list(m), wide[:11]...), o, []int{11, 0, 1, 2, 3, 4, 5, 6, 7, 8, 9, 10}, nil},
		"twelve wide ones, none is M": {wide, append(wide[:11:11], m), n, nil, []int{11}},
	}
}

// P4.4: the verdict, the first pairs, and the first one of the smallest proofs.
func TestHonest(t *testing.T) {
	for name, c := range honestCases() {
		verdict, pairs, proof, e := catch.Honest(c.sea, c.dock)
		if verdict != c.verdict || e != api.OK || !slices.Equal(pairs, c.pairs) || !slices.Equal(proof, c.proof) {
			t.Errorf("%s: Honest returns %d %v %v %d, not %d %v %v", name, verdict, pairs, proof, e, c.verdict, c.pairs, c.proof)
		}
	}
}

// P4.4: two animals can be one if they have the same sex and shell, a size in common, and verdicts that do not contradict each other.
func TestCanBeOne(t *testing.T) {
	a := with(femaleA(), func(c *api.Caught) { c.Eggs, c.Notch = y, n })
	for name, c := range map[string]struct {
		change func(c *api.Caught)
		want   int
	}{
		"the same":                {func(c *api.Caught) {}, o},
		"the last size":           {func(c *api.Caught) { c.Size = span(835, 840) }, o},
		"above the last size":     {func(c *api.Caught) { c.Size = span(836, 840) }, n},
		"the first size":          {func(c *api.Caught) { c.Size = span(820, 825) }, o},
		"below the first size":    {func(c *api.Caught) { c.Size = span(820, 824) }, n},
		"more sizes":              {func(c *api.Caught) { c.Size = span(0, 2500) }, o},
		"fewer sizes":             {func(c *api.Caught) { c.Size = one(830) }, o},
		"another sex":             {func(c *api.Caught) { c.Sex, c.Eggs = api.Male, n }, n},
		"Never on eggs":           {func(c *api.Caught) { c.Eggs = n }, n},
		"Open on eggs":            {func(c *api.Caught) { c.Eggs = o }, o},
		"Sure on the notch":       {func(c *api.Caught) { c.Notch = y }, n},
		"Open on the notch":       {func(c *api.Caught) { c.Notch = o }, o},
		"Open on both":            {func(c *api.Caught) { c.Eggs, c.Notch = o, o }, o},
		"Open on one, the other":  {func(c *api.Caught) { c.Eggs, c.Notch = o, y }, n},
		"a soft shell":            {func(c *api.Caught) { c.Shell = api.ShellSoft }, n},
		"an old shell":            {func(c *api.Caught) { c.Shell = api.ShellOld }, n},
		"Open, but another shell": {func(c *api.Caught) { c.Eggs, c.Notch, c.Shell = o, o, api.ShellOld }, n},
	} {
		b := with(a, c.change)
		for _, l := range [][2]api.Caught{{a, b}, {b, a}} {
			if verdict, _, _, e := catch.Honest(l[:1], l[1:]); verdict != c.want || e != api.OK {
				t.Errorf("%s: Honest(%v, %v) returns %d %d, not %d", name, l[0], l[1], verdict, e, c.want)
			}
		}
	}
}

// P4.4: the errors of Honest, in their order.
func TestHonestErrors(t *testing.T) {
	right, kind, order := []api.Caught{maleM()}, []api.Caught{wrongCaught()}, []api.Caught{wrongOrder()}
	for name, c := range map[string]struct {
		sea, dock []api.Caught
		want      api.Errno
	}{
		"12 of each":                 {slices.Repeat(right, 12), slices.Repeat(right, 12), api.OK},
		"13 of sea":                  {slices.Repeat(right, 13), right, api.ErrFull},
		"13 of dock":                 {right, slices.Repeat(right, 13), api.ErrFull},
		"13 wrong ones of sea":       {slices.Repeat(kind, 13), order, api.ErrFull},
		"13 wrong ones of dock":      {kind, slices.Repeat(order, 13), api.ErrFull},
		"10000 of both":              {slices.Repeat(right, 10000), slices.Repeat(right, 10000), api.ErrFull},
		"sea comes first":            {kind, order, api.ErrKind},
		"sea comes first, too":       {order, kind, api.ErrOrder},
		"dock":                       {right, order, api.ErrOrder},
		"dock, no sea":               {nil, kind, api.ErrKind},
		"sea, no dock":               {kind, nil, api.ErrKind},
		"the first one of sea":       {[]api.Caught{maleM(), wrongOrder(), wrongCaught()}, right, api.ErrOrder},
		"the first one of dock":      {right, []api.Caught{maleM(), wrongCaught(), wrongOrder()}, api.ErrKind},
		"the last one of sea, twice": {[]api.Caught{maleM(), wrongOrder()}, kind, api.ErrOrder},
	} {
		verdict, pairs, proof, e := catch.Honest(c.sea, c.dock)
		if e != c.want || (e == api.OK) != (verdict != 0) || e != api.OK && len(pairs)+len(proof) > 0 {
			t.Errorf("%s: Honest returns %d %v %v %d, not %d", name, verdict, pairs, proof, e, c.want)
		}
	}
	for c, want := range caughtErrors() {
		if _, _, _, e := catch.Honest(right, []api.Caught{maleM(), c}); e != want {
			t.Errorf("%v of dock: Honest returns %d, not %d", c, e, want)
		}
		if _, _, _, e := catch.Honest([]api.Caught{maleM(), c}, right); e != want {
			t.Errorf("%v of sea: Honest returns %d, not %d", c, e, want)
		}
	}
}
