package haul_test

import (
	"strings"
	"testing"

	"homarus/api"
	"homarus/haul"
)

// exampleChart is that of the tour T.
const exampleChart = "day 300 600 200 5 30\nstop 10 4000 60 10 300 600\nstop 20 6000 80 20 350 420\nstop 10 1000 30 5 300 600\n" +
	"legs 0 0 30 20 40 30 20 10\nlegs 30 20 0 0 25 15 30 20\nlegs 40 30 25 15 0 0 50 40\nlegs 20 10 30 20 50 40 0 0\nend 3\n"

// emptyChart is that of a tour without a stop.
const emptyChart = "day 0 0 0 0 0\nlegs 0 0\nend 0\n"

// greatestTour has the greatest numbers everywhere.
func greatestTour() api.Tour {
	t := easyTour(8)
	t.Start, t.End, t.Tank, t.Price, t.Bait = 1440, 1440, 100000, 1000, 1000
	for stop := range t.Stops {
		t.Stops[stop] = api.Stop{Traps: 1000, Worth: 1000000, Work: 1440, Fuel: 100000, From: 1440, To: 1440}
	}
	for from, row := range t.Legs {
		for to := range row {
			if from != to {
				row[to] = api.Leg{Minutes: 1440, Fuel: 100000}
			}
		}
	}
	return t
}

// P3.6: charts of the tour T, of no stop, and of the longest rows.
func TestChart(t *testing.T) {
	for text, tour := range map[string]api.Tour{exampleChart: exampleTour(), emptyChart: emptyTour(), trueChart(greatestTour()): greatestTour()} {
		if s, e := haul.Write(tour); s != text || e != api.OK {
			t.Errorf("Write returns %q %d, not %q", s, e, text)
		}
		if read, row, e := haul.Read(text); !sameTour(read, tour) || row != 0 || e != api.OK {
			t.Errorf("Read returns %v %d %d, not %v", read, row, e, tour)
		}
	}
}

// P3.6: the first row that is not as it has to be, otherwise the error of the tour.
func TestReadErrors(t *testing.T) {
	const day, legs = "day 0 0 0 0 0\n", "legs 0 0\n"
	const one = "day 0 0 0 0 0\nstop 0 0 0 0 0 0\nlegs 0 0 0 0\nlegs 0 0 0 0\n"
	for text, c := range map[string]struct {
		row  int
		want api.Errno
	}{
		"":                                       {1, api.ErrForm},
		"\n":                                     {1, api.ErrForm},
		"x":                                      {1, api.ErrForm},
		"day":                                    {1, api.ErrForm},
		"day\n":                                  {1, api.ErrForm},
		"day 0 0 0 0\n":                          {1, api.ErrForm},
		"day 0 0 0 0 0 0\n":                      {1, api.ErrForm},
		"day 0 0 0 0 0":                          {1, api.ErrForm},
		day:                                      {2, api.ErrForm},
		day + "\n":                               {2, api.ErrForm},
		day + day + legs + "end 0\n":             {2, api.ErrForm},
		day + legs + day + "end 0\n":             {3, api.ErrForm},
		day + legs + "end 0\n" + day:             {4, api.ErrForm},
		legs + day + "end 0\n":                   {1, api.ErrForm},
		"end 0\n":                                {1, api.ErrForm},
		"stop 0 0 0 0 0 0\n" + day:               {1, api.ErrForm},
		legs + "end 0\n":                         {1, api.ErrForm},
		day + legs:                               {3, api.ErrForm},
		day + legs + "end 0":                     {3, api.ErrForm},
		day + legs + "end\n":                     {3, api.ErrForm},
		day + legs + "end 1\n":                   {3, api.ErrForm},
		day + legs + "end 0 0\n":                 {3, api.ErrForm},
		day + legs + "end 00\n":                  {3, api.ErrForm},
		day + legs + "end 0\n\n":                 {4, api.ErrForm},
		day + legs + "end 0\nx":                  {4, api.ErrForm},
		day + legs + "end 0\nend 0\n":            {4, api.ErrForm},
		day + legs + "end 0\nlegs 0 0\n":         {4, api.ErrForm},
		day + legs + "end 1\nend 0\n":            {3, api.ErrForm},
		day + "stop 0 0 0 0 0\n":                 {2, api.ErrForm},
		day + "stop 0 0 0 0 0 0 0\n":             {2, api.ErrForm},
		day + "stop\n":                           {2, api.ErrForm},
		day + legs + "stop 0 0 0 0 0 0\nend 1\n": {3, api.ErrForm},
		day + "legs\nstop 0 0 0 0 0 0\nend 1\n":  {3, api.ErrForm},
		day + "legs 0\n":                         {2, api.ErrForm},
		day + "legs 0 0 0\n":                     {2, api.ErrForm},
		day + "legs 0 0 0 0 0\n":                 {2, api.ErrForm},
		day + "legs \n":                          {2, api.ErrForm},
		day + "legs 0 0 \n":                      {2, api.ErrForm},
		day + "legs  0 0\n":                      {2, api.ErrForm},
		day + " legs 0 0\n":                      {2, api.ErrForm},
		day + "Legs 0 0\n":                       {2, api.ErrForm},
		day + "leg 0 0\n":                        {2, api.ErrForm},
		day + "0 0\n":                            {2, api.ErrForm},
		day + "legs\t0 0\n":                      {2, api.ErrForm},
		day + "legs 0 0\r\n":                     {2, api.ErrForm},
		day + "legs 0 00\n":                      {2, api.ErrForm},
		day + "legs 0 -0\n":                      {2, api.ErrForm},
		day + "legs 0 -1\n":                      {2, api.ErrForm},
		day + "legs 0 +1\n":                      {2, api.ErrForm},
		day + "legs 0 x\n":                       {2, api.ErrForm},
		day + "legs 0 1_0\n":                     {2, api.ErrForm},
		day + "legs 0 0x1\n":                     {2, api.ErrForm},
		day + "legs 0 1.0\n":                     {2, api.ErrForm},
		day + "legs 0 10000000\n":                {2, api.ErrForm},
		day + "legs 0 00000001\n":                {2, api.ErrForm},
		day + "legs 0 18446744073709551616\n":    {2, api.ErrForm},
		day + "legs 0 0\nlegs 0\nlegs\n":         {3, api.ErrForm},
		"day 9999999 0 0 0 0\n":                  {2, api.ErrForm},
		"day 10000000 0 0 0 0\n":                 {1, api.ErrForm},
		"day 0 0 0 0 01\n":                       {1, api.ErrForm},
		"day  0 0 0 0 0\n":                       {1, api.ErrForm},
		"day 0 0 0 0 0 \n":                       {1, api.ErrForm},
		"Day 0 0 0 0 0\n":                        {1, api.ErrForm},
		exampleChart + "x":                       {10, api.ErrForm},
		exampleChart + "\n":                      {10, api.ErrForm},
		exampleChart + exampleChart:              {10, api.ErrForm},
		strings.TrimSuffix(exampleChart, "\n"):   {9, api.ErrForm},
		strings.Replace(exampleChart, "end 3", "end 2", 1): {9, api.ErrForm},
		strings.Replace(exampleChart, "end 3", "end 4", 1): {9, api.ErrForm},

		exampleChart:                                                  {0, api.OK},
		emptyChart:                                                    {0, api.OK},
		one + "end 1\n":                                               {0, api.OK},
		day + "end 0\n":                                               {0, api.ErrForm},
		day + "legs\nend 0\n":                                         {0, api.ErrForm},
		day + "legs 0 0 0 0\nend 0\n":                                 {0, api.ErrForm},
		day + legs + legs + "end 0\n":                                 {0, api.ErrForm},
		day + "legs 1 0\nend 0\n":                                     {0, api.ErrForm},
		day + "legs 0 1\nend 0\n":                                     {0, api.ErrForm},
		day + "legs 1441 0\nend 0\n":                                  {0, api.ErrRange},
		day + "legs 0 9999999\nend 0\n":                               {0, api.ErrRange},
		one + "legs 0 0\nend 1\n":                                     {0, api.ErrForm},
		one + "legs\nend 1\n":                                         {0, api.ErrForm},
		"day 9999999 0 0 0 0\nend 0\n":                                {0, api.ErrRange},
		"day 1 0 0 0 0\nend 0\n":                                      {0, api.ErrOrder},
		"day 1 0 0 0 0\nlegs 0\nend 0\n":                              {2, api.ErrForm},
		"day 1 0 0 0 0\nlegs 0 0\nend 1\n":                            {3, api.ErrForm},
		"day 0 0 0 0 0\nstop 0 0 0 0 1 0\nend 1\n":                    {0, api.ErrOrder},
		day + strings.Repeat("stop 0 0 0 0 0 0\n", 9) + "end 9\n":     {0, api.ErrFull},
		day + strings.Repeat("stop 0 0 0 0 0 0\n", 9) + "end 8\n":     {11, api.ErrForm},
		day + strings.Repeat("stop 0 0 0 0 0 0\n", 100) + "end 100\n": {0, api.ErrFull},
		day + strings.Repeat("legs\n", 700) + "end 0\n":               {0, api.ErrForm},
		day + "legs" + strings.Repeat(" 0", 1900) + "\nend 0\n":       {0, api.ErrForm},
		day + "legs" + strings.Repeat(" 0", 1901) + "\nend 0\n":       {2, api.ErrForm},
		day + "legs 00000000 0\nend 0\n":                              {2, api.ErrForm},
		strings.Repeat("x", 4000):                                     {1, api.ErrForm},
		strings.Repeat("x", 4001):                                     {0, api.ErrLong},
		strings.Repeat("\n", 4001):                                    {0, api.ErrLong},
		emptyChart + strings.Repeat("x", 4000-len(emptyChart)):        {4, api.ErrForm},
		emptyChart + strings.Repeat("x", 4001-len(emptyChart)):        {0, api.ErrLong},
		(day + strings.Repeat("stop 0 0 0 0 0 0\n", 300))[:4000]:      {236, api.ErrForm},
		day + strings.Repeat("stop 0 0 0 0 0 0\n", 233) + "legs 0 0 0 0 0 0\nend 233\n": {0, api.ErrFull},
	} {
		tour, row, e := haul.Read(text)
		if row != c.row || e != c.want {
			t.Errorf("%q: Read returns %d %d, not %d %d", text, row, e, c.row, c.want)
		}
		if e != api.OK && !isZero(tour) {
			t.Errorf("%q: Read returns %v with an error", text, tour)
		}
	}
}
