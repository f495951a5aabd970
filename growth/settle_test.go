package growth_test

import (
	"slices"
	"testing"

	"homarus/api"
	"homarus/growth"
)

// bed is the nursery of the chapter's examples.
func bed() api.Nursery { return api.Nursery{Low: 120, High: 200, Rate: 250000, Room: 500} }

func bedWith(change func(n *api.Nursery)) api.Nursery {
	n := bed()
	change(&n)
	return n
}

// P1.5: how many larvae settle, and the errors, in their order.
func TestSettle(t *testing.T) {
	days, larvae := []api.Span{span(130, 150), span(110, 130), span(90, 100)}, []api.Span{span(100, 200), one(100), one(100)}
	small := bedWith(func(n *api.Nursery) { n.Room = 60 })
	third := bedWith(func(n *api.Nursery) { n.Rate = 333333 })
	whole := api.Nursery{Low: 120, High: 200, Rate: api.Mil, Room: api.MaxHerd}
	bad := span(2, 1)
	for name, c := range map[string]struct {
		n            api.Nursery
		days, larvae []api.Span
		want         api.Span
		e            api.Errno
	}{
		"example":                {bed(), days, larvae, span(25, 75), api.OK},
		"example, little room":   {small, days, larvae, span(25, 60), api.OK},
		"no room":                {bedWith(func(n *api.Nursery) { n.Room = 0 }), days, larvae, span(0, 0), api.OK},
		"room for the least":     {bedWith(func(n *api.Nursery) { n.Room = 20 }), days, larvae, span(20, 20), api.OK},
		"no rate":                {bedWith(func(n *api.Nursery) { n.Rate = 0 }), days, larvae, span(0, 0), api.OK},
		"no day":                 {bed(), nil, nil, span(0, 0), api.OK},
		"rounded day by day":     {third, []api.Span{one(120), one(200)}, []api.Span{one(10), one(3)}, span(3, 5), api.OK},
		"at both bounds":         {bed(), []api.Span{span(120, 200)}, []api.Span{one(8)}, span(2, 2), api.OK},
		"perhaps too cold":       {bed(), []api.Span{span(119, 200)}, []api.Span{one(8)}, span(0, 2), api.OK},
		"perhaps too warm":       {bed(), []api.Span{span(120, 201)}, []api.Span{one(8)}, span(0, 2), api.OK},
		"around both bounds":     {bed(), []api.Span{span(100, 300)}, []api.Span{one(8)}, span(0, 2), api.OK},
		"too warm, too cold":     {bed(), []api.Span{span(201, 300), span(0, 119)}, []api.Span{one(8), one(8)}, span(0, 0), api.OK},
		"a season of the most":   {whole, slices.Repeat([]api.Span{one(150)}, 400), slices.Repeat([]api.Span{span(1, 1000000000)}, 400), span(400, 1000000000), api.OK},
		"too many days":          {bed(), slices.Repeat([]api.Span{bad}, 401), nil, span(0, 0), api.ErrFull},
		"fewer larvae":           {bed(), []api.Span{bad, bad}, []api.Span{bad}, span(0, 0), api.ErrForm},
		"more larvae":            {bed(), nil, []api.Span{bad}, span(0, 0), api.ErrForm},
		"too many larvae at all": {bed(), []api.Span{one(1)}, make([]api.Span, 401), span(0, 0), api.ErrForm},
		"warmth too great":       {bed(), []api.Span{one(401)}, []api.Span{bad}, span(0, 0), api.ErrRange},
		"warmth too small":       {bed(), []api.Span{one(-51)}, []api.Span{bad}, span(0, 0), api.ErrRange},
		"warmth backwards":       {bed(), []api.Span{bad}, []api.Span{one(-1)}, span(0, 0), api.ErrOrder},
		"larvae below 0":         {bed(), []api.Span{one(4)}, []api.Span{one(-1)}, span(0, 0), api.ErrRange},
		"larvae too many":        {bed(), []api.Span{one(4)}, []api.Span{one(1000000001)}, span(0, 0), api.ErrRange},
		"larvae backwards":       {bed(), []api.Span{one(4)}, []api.Span{bad}, span(0, 0), api.ErrOrder},
		"day by day":             {bed(), []api.Span{one(4), one(-51)}, []api.Span{bad, one(1)}, span(0, 0), api.ErrOrder},
		"nursery before days":    {bedWith(func(n *api.Nursery) { n.Low = 201 }), make([]api.Span, 401), nil, span(0, 0), api.ErrOrder},
		"low too low":            {bedWith(func(n *api.Nursery) { n.Low = -51 }), nil, nil, span(0, 0), api.ErrRange},
		"low too high":           {bedWith(func(n *api.Nursery) { n.Low = 401 }), nil, nil, span(0, 0), api.ErrRange},
		"high too high":          {bedWith(func(n *api.Nursery) { n.High = 401 }), nil, nil, span(0, 0), api.ErrRange},
		"high too low":           {bedWith(func(n *api.Nursery) { n.High = -51 }), nil, nil, span(0, 0), api.ErrRange},
		"rate above Mil":         {bedWith(func(n *api.Nursery) { n.Rate = 1000001 }), nil, nil, span(0, 0), api.ErrRange},
		"rate below 0":           {bedWith(func(n *api.Nursery) { n.Rate = -1 }), nil, nil, span(0, 0), api.ErrRange},
		"room below 0":           {bedWith(func(n *api.Nursery) { n.Room = -1 }), nil, nil, span(0, 0), api.ErrRange},
		"room too great":         {bedWith(func(n *api.Nursery) { n.Room = 1000000001 }), nil, nil, span(0, 0), api.ErrRange},
		"room before order":      {bedWith(func(n *api.Nursery) { n.Low, n.Room = 201, -1 }), nil, nil, span(0, 0), api.ErrRange},
		"low equal to high":      {bedWith(func(n *api.Nursery) { n.Low = 200 }), []api.Span{one(200)}, []api.Span{one(4)}, span(1, 1), api.OK},
	} {
		if s, e := growth.Settle(c.n, c.days, c.larvae); s != c.want || e != c.e {
			t.Errorf("%s: Settle returns %v %d, not %v %d", name, s, e, c.want, c.e)
		}
	}
}
