package catch_test

import (
	"math"
	"slices"
	"testing"

	"homarus/api"
	"homarus/catch"
)

// wrongCaught is an animal whose first error is ErrKind, and wrongOrder one whose first error is ErrOrder.
func wrongCaught() api.Caught { return api.Caught{} }

func wrongOrder() api.Caught { return api.Caught{Size: span(5, 4)} }

// P4.2: the numbers by classes.
func TestCounts(t *testing.T) {
	list := []api.Caught{femaleA(), maleM(), femaleN()}
	twenty, most := make([]int, 21), make([]api.Span, 20)
	for i := range twenty {
		twenty[i] = i * 125
	}
	most[6], most[7] = one(300), one(300)
	for name, c := range map[string]struct {
		edges []int
		l     []api.Caught
		want  []api.Span
	}{
		"example":                   {[]int{800, 830, 900, 1000}, list, []api.Span{span(0, 1), span(0, 1), one(2)}},
		"no animal":                 {[]int{800, 830, 900}, nil, []api.Span{one(0), one(0)}},
		"all in one class":          {[]int{0, 2501}, list, []api.Span{one(3)}},
		"all below the first edge":  {[]int{961, 2501}, list, []api.Span{one(0)}},
		"all above the last edge":   {[]int{0, 5, 825}, list, []api.Span{one(0), one(0)}},
		"one below, one above":      {[]int{899, 901}, list, []api.Span{one(1)}},
		"up to the first edge":      {[]int{835, 840}, list[:1], []api.Span{span(0, 1)}},
		"just below the first edge": {[]int{836, 840}, list[:1], []api.Span{one(0)}},
		"from the last size on":     {[]int{820, 826}, list[:1], []api.Span{span(0, 1)}},
		"just from the last edge":   {[]int{820, 825}, list[:1], []api.Span{one(0)}},
		"just a class":              {[]int{824, 825, 836, 837}, list[:1], []api.Span{one(0), one(1), one(0)}},
		"a size less":               {[]int{825, 835}, list[:1], []api.Span{span(0, 1)}},
		"a size less, from below":   {[]int{826, 836}, list[:1], []api.Span{span(0, 1)}},
		"more classes than two":     {[]int{820, 827, 830, 834, 900}, list[:1], []api.Span{span(0, 1), span(0, 1), span(0, 1), span(0, 1)}},
		"partly in no class":        {[]int{830, 832}, list[:1], []api.Span{span(0, 1)}},
		"the size 0":                {[]int{0, 1, 2}, []api.Caught{sized(0, 0), sized(0, 1)}, []api.Span{span(1, 2), span(0, 1)}},
		"the greatest size":         {[]int{2499, 2500, 2501}, []api.Caught{sized(2500, 2500), sized(0, 2500)}, []api.Span{span(0, 1), span(1, 2)}},
		"all twenty classes, 600":   {twenty, slices.Repeat([]api.Caught{maleM(), femaleA()}, 300), most},
	} {
		if l, e := catch.Counts(c.edges, c.l); e != api.OK || !slices.Equal(l, c.want) {
			t.Errorf("%s: Counts returns %v %d, not %v", name, l, e, c.want)
		}
	}
}

// P4.2: the errors of Counts, in their order.
func TestCountsErrors(t *testing.T) {
	right := []int{800, 830, 900}
	wrong := []api.Caught{wrongCaught()}
	for name, c := range map[string]struct {
		edges []int
		l     []api.Caught
		want  api.Errno
	}{
		"no edge":                     {nil, wrong, api.ErrShort},
		"one edge":                    {[]int{-5}, wrong, api.ErrShort},
		"22 edges":                    {make([]int, 22), wrong, api.ErrFull},
		"an edge below 0":             {[]int{-1, 5}, wrong, api.ErrRange},
		"the edge 2502":               {[]int{5, 2502}, wrong, api.ErrRange},
		"a very great edge":           {[]int{5, math.MaxInt}, wrong, api.ErrRange},
		"equal edges":                 {[]int{5, 5}, wrong, api.ErrOrder},
		"equal edges 0":               {[]int{0, 0}, wrong, api.ErrOrder},
		"lesser edges":                {[]int{5, 8, 7, -1}, wrong, api.ErrOrder},
		"edges, then too many":        {[]int{5, 5}, make([]api.Caught, 601), api.ErrOrder},
		"edges that do not have 0":    {right, slices.Repeat(wrong, 601), api.ErrFull},
		"edges that have 0":           {[]int{0, 1}, slices.Repeat(wrong, 601), api.ErrFull},
		"600 of them":                 {right, slices.Repeat([]api.Caught{maleM()}, 600), api.OK},
		"601 of them":                 {right, slices.Repeat([]api.Caught{maleM()}, 601), api.ErrFull},
		"the last one is wrong":       {right, append(slices.Repeat([]api.Caught{maleM()}, 599), wrongOrder()), api.ErrOrder},
		"the first error of an order": {right, []api.Caught{maleM(), wrongOrder(), wrongCaught()}, api.ErrOrder},
		"the first error of a kind":   {right, []api.Caught{maleM(), wrongCaught(), wrongOrder()}, api.ErrKind},
	} {
		if l, e := catch.Counts(c.edges, c.l); e != c.want || e != api.OK && len(l) > 0 {
			t.Errorf("%s: Counts returns %v %d, not %d", name, l, e, c.want)
		}
	}
	for c, want := range caughtErrors() {
		l, e := catch.Counts(right, []api.Caught{maleM(), c})
		w, f := catch.Weight(7, []api.Caught{maleM(), c})
		if e != want || f != want || e != api.OK && (len(l) > 0 || w != one(0)) {
			t.Errorf("%v: Counts returns %v %d, and Weight %v %d, not %d", c, l, e, w, f, want)
		}
	}
}

// P4.2: the weights, and the errors in their order.
func TestWeight(t *testing.T) {
	wrong := []api.Caught{wrongCaught()}
	full := slices.Repeat([]api.Caught{sized(0, 2500)}, 600)
	for name, c := range map[string]struct {
		bulk int
		l    []api.Caught
		want api.Span
		e    api.Errno
	}{
		"example, M":               {1000, []api.Caught{maleM()}, one(729000), api.OK},
		"example, A and M":         {1000, []api.Caught{femaleA(), maleM()}, span(1290515, 1311183), api.OK},
		"no animal":                {1, nil, one(0), api.OK},
		"size 0 weighs nothing":    {100000, []api.Caught{sized(0, 0)}, one(0), api.OK},
		"size 1, much bulk":        {100000, []api.Caught{sized(1, 1)}, span(0, 1), api.OK},
		"just 1":                   {1000, []api.Caught{sized(10, 10)}, one(1), api.OK},
		"a little more than 1":     {999, []api.Caught{sized(10, 10)}, span(1, 2), api.OK},
		"a little less than 1":     {1001, []api.Caught{sized(10, 10)}, span(0, 1), api.OK},
		"each one is rounded":      {1500, slices.Repeat([]api.Caught{sized(10, 10)}, 3), span(0, 3), api.OK},
		"each one is rounded, too": {700, slices.Repeat([]api.Caught{sized(10, 10)}, 3), span(3, 6), api.OK},
		"the least bulk":           {1, []api.Caught{sized(7, 8)}, span(343, 512), api.OK},
		"the greatest bulk":        {100000, []api.Caught{sized(900, 901)}, span(7290, 7315), api.OK},
		"the greatest weight":      {1, full, span(0, 600*2500*2500*2500), api.OK},
		"bulk 0":                   {0, slices.Repeat(wrong, 601), one(0), api.ErrRange},
		"bulk below 0":             {-1, wrong, one(0), api.ErrRange},
		"bulk 100001":              {100001, slices.Repeat(wrong, 601), one(0), api.ErrRange},
		"the least int":            {math.MinInt, nil, one(0), api.ErrRange},
		"the greatest int":         {math.MaxInt, nil, one(0), api.ErrRange},
		"601 of them":              {1, slices.Repeat(wrong, 601), one(0), api.ErrFull},
		"601 right ones":           {1, append(full, femaleA()), one(0), api.ErrFull},
		"the first error, order":   {1, []api.Caught{femaleA(), wrongOrder(), wrongCaught()}, one(0), api.ErrOrder},
		"the first error, kind":    {1, []api.Caught{femaleA(), wrongCaught(), wrongOrder()}, one(0), api.ErrKind},
	} {
		if w, e := catch.Weight(c.bulk, c.l); e != c.e || w != c.want {
			t.Errorf("%s: Weight returns %v %d, not %v %d", name, w, e, c.want, c.e)
		}
	}
}
