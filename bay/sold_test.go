package bay_test

import (
	"fmt"
	"slices"
	"strings"
	"testing"

	"homarus/api"
	"homarus/catch"
	"homarus/ground"
	"homarus/trade"
)

// scaled returns an animal with any weight.
func (r random) scaled(c api.Caught) api.Scaled {
	grams := r.in(1, 14)
	return api.Scaled{Animal: c, Grams: span(grams, grams+r.in(0, 3)), Weak: r.of(api.Sure, api.Never, api.Open)}
}

// T5: what is kept can be on a slip, where each animal is of a grade, or refused; what went back can be on one just if it surely may be kept, which at the desk it never may; no more is bought than was kept.
func TestSold(t *testing.T) {
	slips, back := 0, 0
	logs(t, 500, 60, func(r random, l log) {
		d := l.end(t)
		var keptOnes []api.Scaled
		for _, x := range d.Taken {
			animal := r.scaled(x.Animal)
			if x.Fate == api.FateKept {
				keptOnes = append(keptOnes, animal)
				continue
			}
			back++
			keep, e := catch.Keep(l.h.Gauge, x.Animal)
			if keep == api.Sure || e != api.OK {
				t.Fatalf("%v: %v went back", l, x)
			}
			if _, _, _, e := trade.Slip(l.h.Market, l.h.Gauge, []api.Scaled{animal}); e != api.ErrClash {
				t.Fatalf("%v: a slip of %v has the error %d", l, x, e)
			}
		}
		for list := range slices.Chunk(keptOnes, api.MaxScaled) {
			slips++
			lines, refused, _, e := trade.Slip(l.h.Market, l.h.Gauge, list)
			if e != api.OK {
				t.Fatalf("%v: a slip of %v has the error %d", l, list, e)
			}
			least, most := refused.Lo, refused.Hi
			for _, line := range lines {
				least, most = least+line.Count.Lo, most+line.Count.Hi
			}
			if least > len(list) || most < len(list) {
				t.Fatalf("%v: a slip of %v has %v, and %v are refused", l, list, lines, refused)
			}
		}
		bought := 0
		for _, event := range d.Events {
			bought += map[int]int{api.EventBuy: 1, api.EventBack: -1}[event.Kind] * event.Count
			if bought > len(keptOnes) {
				t.Fatalf("%v: %d animals were bought", l, bought)
			}
		}
	})
	if slips < 100 || back < 200 {
		t.Errorf("there were %d slips, %d animals went back", slips, back)
	}
}

// T5: what went back on a trip, though it surely may be kept, can be on a slip, and nothing else that went back.
func TestSoldLater(t *testing.T) {
	r := newRandom()
	seen := map[api.Errno]int{}
	for range 4000 {
		h := r.harbour()
		c := api.Caught{Size: r.span(0, 12), Sex: r.of(api.Male, api.Female), Eggs: api.Never, Notch: api.Never, Shell: r.in(1, 3)}
		if c.Sex == api.Female {
			c.Eggs, c.Notch = r.in(1, 3), r.in(1, 3)
		}
		keep, e := catch.Keep(h.Gauge, c)
		_, back, _, tripError := catch.Fates(api.Voyage{Gauge: h.Gauge, Pulls: []api.Pull{{Animals: []api.Caught{c}, Fates: []int{api.FateBack}}}})
		if e != api.OK || tripError != api.OK {
			t.Fatalf("%v: Keep returns %d, Fates %d", c, e, tripError)
		}
		_, _, _, e = trade.Slip(h.Market, h.Gauge, []api.Scaled{r.scaled(back[0])})
		seen[e]++
		if want := map[bool]api.Errno{true: api.OK, false: api.ErrClash}[keep == api.Sure]; e != want {
			t.Fatalf("%v: a slip of %v has the error %d", h, c, e)
		}
	}
	if seen[api.OK] < 300 || seen[api.ErrClash] < 300 {
		t.Errorf("slips had the errors %v", seen)
	}
}

// trips returns the trips of a desk: day by day, with as many traps as there may be in one.
func trips(h api.Harbour, d api.Desk) []api.Voyage {
	pulls := map[int][]api.Pull{}
	var days []int
	for _, x := range d.Taken {
		if !slices.Contains(days, x.Day) {
			days = append(days, x.Day)
		}
		i := slices.IndexFunc(pulls[x.Day], func(p api.Pull) bool { return p.Tag == x.Tag })
		if i < 0 {
			i = len(pulls[x.Day])
			pulls[x.Day] = append(pulls[x.Day], api.Pull{Tag: x.Tag})
		}
		p := &pulls[x.Day][i]
		p.Animals, p.Fates = append(p.Animals, x.Animal), append(p.Fates, x.Fate)
	}
	var list []api.Voyage
	for _, day := range days {
		for some := range slices.Chunk(pulls[day], api.MaxPulls) {
			list = append(list, api.Voyage{Gauge: h.Gauge, Pulls: some})
		}
	}
	return list
}

// checkLogs writes and reads all logs of a desk, and returns how many trips there were.
func checkLogs(t *testing.T, h api.Harbour, d api.Desk) int {
	t.Helper()
	book, _ := ground.Book(h.Bay, h.Fleet, d.Reports)
	paper, e := ground.Write(h.Bay, h.Fleet, d.Reports)
	if e != api.OK {
		t.Fatalf("%v: ground.Write(%v) returns %d", h, d.Reports, e)
	}
	if l, row, e := ground.Read(h.Bay, h.Fleet, paper); !slices.Equal(l, book) || row != 0 || e != api.OK {
		t.Fatalf("%v: the reports %v are read as %v %d %d", h, d.Reports, l, row, e)
	}
	list := trips(h, d)
	animals := 0
	for _, trip := range list {
		sheet, e := catch.Write(trip)
		if e != api.OK {
			t.Fatalf("%v: catch.Write(%v) returns %d", h, trip, e)
		}
		read, row, e := catch.Read(sheet)
		same := func(a, b api.Pull) bool {
			return a.Tag == b.Tag && slices.Equal(a.Animals, b.Animals) && slices.Equal(a.Fates, b.Fates)
		}
		if read.Gauge != trip.Gauge || !slices.EqualFunc(read.Pulls, trip.Pulls, same) || row != 0 || e != api.OK {
			t.Fatalf("%v: the trip %v is read as %v %d %d", h, trip, read, row, e)
		}
		for _, p := range trip.Pulls {
			animals += len(p.Animals)
		}
	}
	if animals != len(d.Taken) {
		t.Fatalf("%v: %d animals of %d are in trips", h, animals, len(d.Taken))
	}
	ledger, e := trade.Write(h.Market, d.Events)
	if e != api.OK {
		t.Fatalf("%v: trade.Write(%v) returns %d", h, d.Events, e)
	}
	if l, row, e := trade.Read(h.Market, ledger); !slices.Equal(l, d.Events) || row != 0 || e != api.OK {
		t.Fatalf("%v: the events %v are read as %v %d %d", h, d.Events, l, row, e)
	}
	return len(list)
}

// T8: all logs of a desk can be written, and are read as they were: its reports, the animals of each trip, and what the dealer did.
func TestLogs(t *testing.T) {
	many := 0
	logs(t, 600, 60, func(r random, l log) { many += checkLogs(t, l.h, l.end(t)) })
	if many < 200 {
		t.Errorf("there were %d trips", many)
	}
}

// T8: more traps are hauled on one day than there may be in one trip.
func TestLogsOfManyTraps(t *testing.T) {
	h := changed(example(), func(h *api.Harbour) {
		h.Bay = api.Bay{Wide: 200, Deep: 20, Gangs: 1}
		h.Fleet = api.Fleet{Licences: []api.Licence{{Most: 40, Master: -1, Days: span(0, 364)}}, Tags: make([]int, 40)}
		h.Ropes = slices.Repeat([]api.Rope{strong()}, 40)
	})
	lines := []string{"day 36498"}
	for tag := 15; tag < 40; tag++ {
		lines = append(lines, fmt.Sprint("seen ", tag, " 199 19"))
	}
	lines = append(lines, "day 36499")
	for tag := 39; tag >= 15; tag-- {
		lines = append(lines, fmt.Sprint("haul ", tag), fmt.Sprint("catch ", tag, " 1269 1270 m n n old"))
	}
	for i := range 20 {
		lines = append(lines, fmt.Sprint("buy ", []string{"chick", "select", "cull"}[i%3], " 1 999999"))
	}
	d := kept(t, h, strings.Join(lines, "; "))
	if trips := checkLogs(t, h, d); trips != 2 || len(d.Taken) != 25 || len(d.Reports) != 50 || len(d.Events) != 20 {
		t.Errorf("there are %d trips, and the desk is %v", trips, d)
	}
}
