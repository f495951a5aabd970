package growth_test

import (
	"slices"
	"testing"

	"homarus/api"
	"homarus/growth"
)

// P1.3: the class of a size, and the errors, in their order.
func TestClass(t *testing.T) {
	full := make([]int, 21)
	for i := range full {
		full[i] = i * 10
	}
	for name, c := range map[string]struct {
		edges      []int
		size, want int
		e          api.Errno
	}{
		"the least size of the first": {[]int{400, 500, 560}, 400, 0, api.OK},
		"example, the greatest of it": {[]int{400, 500, 560}, 499, 0, api.OK},
		"example, the second":         {[]int{400, 500, 560}, 500, 1, api.OK},
		"the last size":               {[]int{400, 500, 560}, 559, 1, api.OK},
		"example, above all":          {[]int{400, 500, 560}, 560, 0, api.ErrMissing},
		"below all":                   {[]int{400, 500, 560}, 399, 0, api.ErrMissing},
		"size 0":                      {[]int{0, 1}, 0, 0, api.OK},
		"the greatest size":           {[]int{2400, 2500, 2501}, 2500, 1, api.OK},
		"twenty classes":              {full, 199, 19, api.OK},
		"size 2501":                   {[]int{2400, 2501}, 2501, 0, api.ErrRange},
		"size below 0":                {[]int{0, 5}, -1, 0, api.ErrRange},
		"no edge":                     {nil, -1, 0, api.ErrShort},
		"one edge":                    {[]int{5}, -1, 0, api.ErrShort},
		"22 edges":                    {make([]int, 22), -1, 0, api.ErrFull},
		"edge below 0":                {[]int{-1, 5}, 3, 0, api.ErrRange},
		"edge 2502":                   {[]int{2490, 2502}, 3, 0, api.ErrRange},
		"equal edges":                 {[]int{5, 5}, -1, 0, api.ErrOrder},
		"the first wrong edge":        {[]int{5, 4, 9999}, -1, 0, api.ErrOrder},
		"range before order":          {[]int{5, -1}, -1, 0, api.ErrRange},
	} {
		if n, e := growth.Class(c.edges, c.size); n != c.want || e != c.e {
			t.Errorf("%s: Class returns %d %d, not %d %d", name, n, e, c.want, c.e)
		}
	}
}

// nextCase is a call of Next.
type nextCase struct {
	g                 api.Growth
	edges             []int
	herd              []api.Span
	store, heat, live api.Span
}

// P1.4: how many animals of each class there may be.
func TestNext(t *testing.T) {
	g, all := example(), one(api.Mil)
	for name, c := range map[string]struct {
		nextCase
		want []api.Span
	}{
		"example":                    {nextCase{g, []int{400, 500, 560, 900}, []api.Span{one(100), span(10, 20), one(0)}, one(0), one(2500), all}, []api.Span{span(0, 100), span(10, 120), one(0), one(0)}},
		"without heat":               {nextCase{g, []int{400, 500, 560}, []api.Span{span(3, 7), one(9)}, span(0, 999), one(0), all}, []api.Span{span(3, 7), one(9), one(0)}},
		"half lives, down and up":    {nextCase{g, []int{400, 500}, []api.Span{span(7, 9)}, one(0), one(0), one(500000)}, []api.Span{span(3, 5), one(0)}},
		"hardly one lives":           {nextCase{g, []int{400, 500}, []api.Span{span(7, 9)}, one(0), one(0), span(0, 1)}, []api.Span{span(0, 1), one(0)}},
		"none lives":                 {nextCase{g, []int{400, 500}, []api.Span{span(7, 9)}, one(0), one(0), one(0)}, []api.Span{one(0), one(0)}},
		"a store lets some moult":    {nextCase{g, []int{480, 500}, []api.Span{one(4)}, span(0, 1000), one(0), all}, []api.Span{span(0, 4), span(0, 4)}},
		"store and heat together":    {nextCase{g, []int{500, 540}, []api.Span{one(4)}, one(1000), one(2500), all}, []api.Span{one(0), one(4)}},
		"some beyond the last edge":  {nextCase{g, []int{500, 600}, []api.Span{one(4)}, one(0), one(3500), all}, []api.Span{span(0, 4), span(0, 4)}},
		"over a class":               {nextCase{g, []int{480, 500, 510, 600}, []api.Span{one(4), one(0), one(0)}, one(0), one(1200), all}, []api.Span{one(0), one(0), one(4), one(0)}},
		"up to the greatest size":    {nextCase{g, []int{2400, 2501}, []api.Span{one(5)}, one(0), one(0), all}, []api.Span{one(5), one(0)}},
		"the greatest herds, summed": {nextCase{g, []int{480, 500, 540, 700}, []api.Span{one(1000000000), one(1000000000), one(0)}, one(0), span(0, 3500), all}, []api.Span{span(0, 1000000000), span(0, 2000000000), span(0, 2000000000), one(0)}},
		"great parts are exact":      {nextCase{g, []int{400, 500}, []api.Span{one(999999999)}, one(0), one(0), one(999999)}, []api.Span{span(999998999, 999999000), one(0)}},
	} {
		list, e := growth.Next(c.g, c.edges, c.herd, c.store, c.heat, c.live)
		if e != api.OK || !slices.Equal(list, c.want) {
			t.Errorf("%s: Next returns %v %d, not %v", name, list, e, c.want)
		}
	}
}

// P1.4: the errors of Next, each one before all that follow.
func TestNextErrors(t *testing.T) {
	g, still := example(), api.Growth{Most: 2500, Stages: []api.Stage{{Need: one(1)}}}
	edges, herd, bad := []int{5, 9, 12}, []api.Span{one(1), one(1)}, span(2, 1)
	for name, c := range map[string]struct {
		nextCase
		want api.Errno
	}{
		"one edge":             {nextCase{g, []int{5}, nil, bad, bad, bad}, api.ErrShort},
		"22 edges":             {nextCase{g, make([]int, 22), nil, bad, bad, bad}, api.ErrFull},
		"edges in disorder":    {nextCase{g, []int{9, 5}, nil, bad, bad, bad}, api.ErrOrder},
		"edge too great":       {nextCase{g, []int{9, 2502}, nil, bad, bad, bad}, api.ErrRange},
		"a number too few":     {nextCase{g, edges, []api.Span{one(-1)}, bad, bad, bad}, api.ErrForm},
		"a number too many":    {nextCase{g, edges, []api.Span{one(-1), one(1), one(1)}, bad, bad, bad}, api.ErrForm},
		"herd below 0":         {nextCase{g, edges, []api.Span{one(-1), span(2, 1)}, bad, bad, bad}, api.ErrRange},
		"herd too great":       {nextCase{g, edges, []api.Span{one(1), one(1000000001)}, bad, bad, bad}, api.ErrRange},
		"herd backwards":       {nextCase{g, edges, []api.Span{span(2, 1), one(-1)}, one(-1), one(-1), one(-1)}, api.ErrOrder},
		"store backwards":      {nextCase{g, edges, herd, bad, one(-1), one(-1)}, api.ErrOrder},
		"store too great":      {nextCase{g, edges, herd, one(1000001), bad, bad}, api.ErrRange},
		"heat below 0":         {nextCase{g, edges, herd, one(2), one(-1), bad}, api.ErrRange},
		"heat backwards":       {nextCase{g, edges, herd, one(2), bad, one(-1)}, api.ErrOrder},
		"live backwards":       {nextCase{still, edges, herd, one(6), one(7), bad}, api.ErrOrder},
		"live above Mil":       {nextCase{still, edges, herd, one(6), one(7), one(1000001)}, api.ErrRange},
		"live below 0":         {nextCase{still, edges, herd, one(6), one(7), one(-1)}, api.ErrRange},
		"too many moults":      {nextCase{still, edges, herd, one(6), one(7), one(0)}, api.ErrFull},
		"of an empty class":    {nextCase{still, edges, make([]api.Span, 2), one(6), one(7), one(0)}, api.ErrFull},
		"twelve moults at all": {nextCase{still, edges, herd, one(6), one(6), one(0)}, api.OK},
	} {
		list, e := growth.Next(c.g, c.edges, c.herd, c.store, c.heat, c.live)
		if e != c.want || e != api.OK && list != nil {
			t.Errorf("%s: Next returns %v %d, not %d", name, list, e, c.want)
		}
	}
}
