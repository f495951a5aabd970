package bay_test

import (
	"strconv"
	"strings"
	"testing"

	"homarus/api"
)

// P10.1: the day is the one of the desk, or a later one, up to the last one.
func TestDay(t *testing.T) {
	checkReplies(t, example(), [][2]string{
		{"day 0; day 5; day 5; day 4; day 6", "ok; ok; ok; error 1; ok"},
		{"day 36499; day 36499; day 36498; day 36500", "ok; ok; error 1; error 1"},
		{"day 36500; day 999999; day 36499", "error 1; error 1; ok"},
	})
	if d := kept(t, example(), "day 7; day 6; day 36500"); d.Day != 7 {
		t.Errorf("the day is %d", d.Day)
	}
}

// P10.1: a trap is set where it may be; the errors of "set" in their order, each one before all that follow.
func TestSet(t *testing.T) {
	checkReplies(t, example(), [][2]string{
		// A tag that there is not, before a cell that there is not.
		{"set 4 10 2; set 4 2 0", "error 6; error 6"},
		// Out of the bay, before a trap that is out.
		{"set 0 2 0; set 0 10 0; set 0 2 2; set 0 2 1", "ok; error 1; error 1; error 10"},
		{"day 55; set 2 9 1; set 3 10 1; set 3 9 2; set 3 9 0", "ok; ok; error 1; error 1; ok"},
		// A trap that is out, or a ghost, before the season.
		{"day 100; set 0 2 0; day 101; set 0 9 0; cut 0; set 0 9 0; haul 0; day 102; haul 0; set 0 9 0", "ok; ok; ok; error 10; ok; error 10; error 13; ok; ok; error 13"},
		// The first and the last day of a season, in each year.
		{"day 49; set 2 9 0; day 50; set 2 9 0; day 60; set 3 9 0", "ok; error 13; ok; ok; ok; ok"},
		{"day 61; set 2 9 0; day 414; set 2 9 0; day 415; set 2 9 0; day 425; set 3 9 0", "ok; error 13; ok; error 13; ok; ok; ok; ok"},
		{"day 364; set 0 2 0; day 365; set 0 2 0", "ok; error 13; ok; ok"},
		// The season, before the gang.
		{"set 2 0 0; day 101; set 0 9 0; set 0 2 0", "error 13; ok; error 13; error 13"},
		// The gang, before how many there are.
		{"set 0 2 0; set 1 3 0; set 1 2 0", "ok; error 9; error 5"},
		{"set 0 3 0; set 0 4 1; set 0 3 1", "error 9; error 9; ok"},
		// The lines of the day.
		{"day 9; set 0 6 0; day 10; set 0 8 0; set 0 7 1; set 0 7 0", "ok; error 9; ok; error 9; error 9; ok"},
		{"day 19; set 0 7 0; set 0 6 1", "ok; ok; error 10"},
		{"day 50; set 2 6 0; set 2 7 0", "ok; error 9; ok"},
		{"day 380; set 0 7 0", "ok; ok"},
	})
	d := kept(t, example(), "day 12; set 0 7 0; set 1 7 0; day 55; set 3 8 1")
	if want := []api.Report{{Tag: 0, Day: 12, Kind: api.ReportSet, X: 7}, {Tag: 3, Day: 55, Kind: api.ReportSet, X: 8, Row: 1}}; !sameDesk(d, api.Desk{Day: 55, Reports: want}) {
		t.Errorf("the desk is %v", d)
	}
}

// most is the harbour of the examples in which so many traps may be out for each licence, with two tags for each one.
func most(own, apprentice, other int) api.Harbour {
	return changed(example(), func(h *api.Harbour) {
		h.Fleet.Licences[0].Most, h.Fleet.Licences[1].Most, h.Fleet.Licences[2].Most = own, apprentice, other
		h.Fleet.Tags = []int{0, 0, 1, 1, 2, 2}
		h.Ropes = []api.Rope{strong(), strong(), strong(), strong(), strong(), strong()}
	})
}

// P10.1: no more traps are out than the licence, and its master, say: own ones, and of a master those of its apprentices.
func TestSetMany(t *testing.T) {
	checkReplies(t, most(2, 1, 1), [][2]string{
		{"set 0 0 0; set 1 0 0", "ok; ok"},
		{"set 0 0 0; set 1 0 0; set 2 0 0", "ok; ok; error 5"},
		{"set 2 0 0; set 3 0 0; set 0 0 0; set 1 0 0", "ok; error 5; ok; error 5"},
		{"set 0 0 0; set 2 0 0; set 1 0 0; day 1; haul 2; set 1 0 0", "ok; ok; error 5; ok; ok; ok"},
		{"day 50; set 4 9 0; set 5 9 0", "ok; ok; error 5"},
	})
	checkReplies(t, most(0, 2, 2), [][2]string{{"set 0 0 0; set 2 0 0; day 55; set 4 9 0; set 5 9 0", "error 5; error 5; ok; ok; ok"}})
	checkReplies(t, most(4, 0, 0), [][2]string{{"set 2 0 0; set 0 0 0; set 1 0 0; day 55; set 4 9 0", "error 5; ok; ok; ok; error 5"}})
	checkReplies(t, most(3, 2, 1), [][2]string{
		// An apprentice does not answer for the master.
		{"set 0 0 0; set 1 0 0; set 2 0 0; set 3 0 0", "ok; ok; ok; error 5"},
		// Ghosts are not out; traps that were seen are, also more of them than may be.
		{"set 2 0 0; set 3 0 0; cut 2; set 0 0 0; set 1 0 0", "ok; ok; ok; ok; ok"},
		{"seen 2 0 0; seen 3 0 0; seen 0 9 0; set 1 0 0", "ok; ok; ok; error 5"},
		{"seen 0 9 0; seen 1 9 0; seen 2 9 0; seen 3 9 0; day 1; haul 0; set 0 0 0; haul 1; set 0 0 0; haul 2; set 2 0 0; set 1 0 0", "ok; ok; ok; ok; ok; ok; error 5; ok; ok; ok; ok; error 5"},
		{"seen 2 0 0; cut 2; day 1; seen 2 0 1; set 0 0 0; set 1 0 0; set 3 0 0", "ok; ok; ok; ok; ok; ok; ok"},
	})
	// Two apprentices, and a licence of the same gang that is none.
	h := changed(most(2, 2, 2), func(h *api.Harbour) {
		h.Fleet.Licences[2] = api.Licence{Gang: 0, Most: 2, Master: 0, Days: span(0, 364)}
		h.Fleet.Licences = append(h.Fleet.Licences, api.Licence{Gang: 0, Most: 1, Master: -1, Days: span(0, 364)})
		h.Fleet.Tags[1] = 3
	})
	checkReplies(t, h, [][2]string{{"set 2 0 0; set 4 0 0; set 0 0 0; set 3 0 0; set 5 0 0; set 1 0 0", "ok; ok; error 5; error 5; error 5; ok"}})
}

// P10.1: no trap with a rope is set in a cell that is shut, which comes behind how many there are.
func TestSetShut(t *testing.T) {
	checkReplies(t, example(), [][2]string{
		{"whale 0 5 5 0 0; set 0 2 0; set 1 2 0", "ok; ok; error 5"},
		{"whale 0 2 2 0 0; set 0 0 0; set 1 1 0", "ok; ok; error 5"},
		{"whale 0 2 2 0 0; set 0 1 0; set 0 2 1; set 0 3 1; set 0 0 0", "ok; error 14; error 14; error 14; ok"},
		{"whale 0 3 9 1 1; set 0 2 0; set 0 2 1; set 0 1 1", "ok; error 14; error 14; ok"},
		// Each whale counts, also if another one is between it and the trap.
		{"whale 0 9 9 0 0; whale 1 1 1 0 0; set 0 2 0; set 0 0 1", "ok; ok; error 14; error 14"},
		// Ropeless traps may be set near whales.
		{"day 55; whale 0 8 8 0 0; set 3 8 0; set 2 8 0", "ok; ok; error 14; ok"},
	})
	checkReplies(t, changed(example(), func(h *api.Harbour) { h.Guard = 0 }), [][2]string{{"whale 0 2 2 0 0; set 0 2 0; set 0 1 0", "ok; error 14; ok"}})
	checkReplies(t, changed(example(), func(h *api.Harbour) { h.Guard = 50 }), [][2]string{{"whale 0 9 9 1 1; set 0 0 0; day 31; set 0 0 0", "ok; error 14; ok; ok"}})
	// Where a whale may be a day later: it swims as fast as the harbour says.
	for speed, want := range map[int]string{0: "ok; ok; ok; error 10", 1: "ok; ok; error 14; ok", 2: "ok; ok; error 14; error 14"} {
		h := changed(example(), func(h *api.Harbour) { h.Speed = speed })
		checkReplies(t, h, [][2]string{{"whale 0 4 4 0 0; day 1; set 0 2 0; set 0 1 0", want}})
	}
}

// P10.1: whales count that were seen on the day of the desk, or not more than Memory days before it, with all of their sights.
func TestMemory(t *testing.T) {
	checkReplies(t, example(), [][2]string{
		{"whale 0 9 9 0 0; day 30; set 0 0 0; day 31; set 0 0 0", "ok; ok; error 14; ok; ok"},
		{"whale 0 9 9 0 0; day 5; whale 0 9 9 0 0; day 35; set 0 0 0; day 36; set 0 0 0", "ok; ok; ok; ok; error 14; ok; ok"},
		{"whale 0 9 9 0 0; day 20; whale 1 0 0 0 0; day 31; set 0 2 0; day 50; set 0 2 0; day 51; set 0 2 0", "ok; ok; ok; ok; error 14; ok; error 14; ok; ok"},
	})
	still := changed(example(), func(h *api.Harbour) { h.Speed, h.Memory = 0, 0 })
	checkReplies(t, still, [][2]string{
		{"whale 0 2 2 0 0; set 0 2 0; day 1; set 0 2 0", "ok; error 14; ok; ok"},
		// It is where it was long ago, if it is seen again.
		{"whale 0 9 9 0 0; day 90; seen 1 9 0; danger; whale 0 0 9 0 1; set 0 2 0; danger", "ok; ok; ok; none; haul 1 90; error 5; 0 1 open"},
		{"whale 0 9 9 0 0; day 90; whale 0 0 9 0 1; set 0 2 0; danger", "ok; ok; ok; ok; none"},
	})
	// Replies have the numbers of whales that they got when they were seen, though the first one does not count any more.
	checkReplies(t, changed(example(), func(h *api.Harbour) { h.Memory, h.Speed = 1, 0 }), [][2]string{
		{"seen 0 2 0; whale 0 2 2 0 0; day 1; whale 1 2 2 0 0; whale 2 2 2 0 1; danger; day 2; whale 0 2 2 0 0; danger; day 3; danger; day 4; danger",
			"ok; haul 0 0; ok; haul 0 1; haul 0 1; 0 0 sure 1 0 sure 2 0 open; ok; haul 0 2; 0 0 sure 1 0 sure 2 0 open; ok; 0 0 sure; ok; none"},
	})
}

// P10.1: a trap is hauled if it is not at home, and if nothing else is said of it on this day.
func TestHaul(t *testing.T) {
	checkReplies(t, example(), [][2]string{
		{"haul 4; haul 0", "error 6; error 10"},
		{"set 0 2 0; haul 0; day 1; haul 0; haul 0", "ok; error 13; ok; ok; error 10"},
		{"seen 0 9 0; haul 0; day 1; haul 0", "ok; error 13; ok; ok"},
		{"set 0 2 0; day 1; cut 0; haul 0; day 2; haul 0; where 0", "ok; ok; ok; error 13; ok; ok; home"},
		{"set 0 2 0; day 1; seen 0 3 0; haul 0; day 2; haul 0", "ok; ok; ok; error 13; ok; ok"},
		// A trap that is hauled can be set again on the same day, and is hauled on another one.
		{"set 0 2 0; day 1; haul 0; set 0 1 1; haul 0; where 0; day 2; haul 0", "ok; ok; ok; ok; error 13; out 1 1; ok; ok"},
		{"set 0 2 0; day 1; haul 0; seen 0 9 1; haul 0; where 0", "ok; ok; ok; ok; error 13; out 9 1"},
		// What is said of another trap does not matter.
		{"set 0 2 0; day 1; seen 1 2 0; day 2; seen 1 3 0; haul 0; haul 1", "ok; ok; ok; ok; ok; ok; error 13"},
	})
	d := kept(t, example(), "set 0 2 1; day 4; haul 0; haul 0")
	if want := []api.Report{{Kind: api.ReportSet, X: 2, Row: 1}, {Day: 4, Kind: api.ReportHaul}}; !sameDesk(d, api.Desk{Day: 4, Reports: want}) {
		t.Errorf("the desk is %v", d)
	}
}

// P10.1: a trap may be seen anywhere in the bay, in any season, but not in two cells on one day.
func TestSeen(t *testing.T) {
	checkReplies(t, example(), [][2]string{
		{"seen 4 10 0; seen 0 10 0; seen 0 9 2; seen 0 9 1; where 0", "error 6; error 1; error 1; ok; out 9 1"},
		{"seen 0 9 1; seen 0 9 1; seen 0 9 0; seen 0 8 1; seen 0 10 1; where 0", "ok; ok; error 9; error 9; error 1; out 9 1"},
		{"seen 0 9 1; day 1; seen 0 8 1; seen 1 9 1; where 0; where 1", "ok; ok; ok; ok; out 8 1; out 9 1"},
		{"day 200; seen 0 9 1; set 0 2 0; seen 1 9 1", "ok; ok; error 10; ok"},
		{"set 0 2 0; seen 0 3 1; where 0; cut 0; where 0; day 1; seen 0 4 1; where 0", "ok; ok; out 3 1; ok; ghost 3 1; ok; ok; ghost 4 1"},
		{"set 0 2 0; cut 0; seen 0 5 1; where 0", "ok; ok; ok; ghost 5 1"},
	})
	d := kept(t, example(), "day 2; seen 0 9 1; seen 0 9 0; seen 0 9 1")
	if want := (api.Report{Day: 2, Kind: api.ReportSeen, X: 9, Row: 1}); !sameDesk(d, api.Desk{Day: 2, Reports: []api.Report{want, want}}) {
		t.Errorf("the desk is %v", d)
	}
}

// P10.1: a trap is cut if it is out.
func TestCut(t *testing.T) {
	checkReplies(t, example(), [][2]string{
		{"cut 4; cut 0", "error 6; error 10"},
		{"set 0 2 0; cut 0; where 0; cut 0", "ok; ok; ghost 2 0; error 10"},
		{"seen 1 8 1; cut 1; cut 0; day 1; cut 1; haul 1; cut 1", "ok; ok; error 10; ok; error 10; ok; error 10"},
		{"set 0 2 0; day 1; haul 0; set 0 1 0; cut 0; where 0; day 2; where 0", "ok; ok; ok; ok; ok; ghost 1 0; ok; ghost 1 0"},
	})
	d := kept(t, example(), "seen 1 8 1; day 1; cut 1; cut 1")
	if want := []api.Report{{Tag: 1, Kind: api.ReportSeen, X: 8, Row: 1}, {Tag: 1, Day: 1, Kind: api.ReportCut}}; !sameDesk(d, api.Desk{Day: 1, Reports: want}) {
		t.Errorf("the desk is %v", d)
	}
}

const hauled = "set 0 2 0; day 1; haul 0; "

const hauledReply = "ok; ok; ok; "

// checkCatches holds the replies to lines behind a haul of the trap 0 against those that are wanted.
func checkCatches(t *testing.T, h api.Harbour, wanted [][2]string) {
	t.Helper()
	for _, c := range wanted {
		checkReplies(t, h, [][2]string{{hauled + c[0], hauledReply + c[1]}})
	}
}

// P10.1: animals are of traps that were hauled on this day; the errors of "catch" in their order.
func TestCatchErrors(t *testing.T) {
	const bad = "catch 0 2501 2500 m y y hard"
	checkReplies(t, example(), [][2]string{
		{"catch 4 2501 0 m y y hard; " + bad + "; set 0 2 0; " + bad, "error 6; error 10; ok; error 10"},
		{"seen 0 2 0; catch 0 900 900 m n n hard", "ok; error 10"},
	})
	checkCatches(t, example(), [][2]string{
		{bad + "; catch 1 900 900 m n n hard; day 2; " + bad, "error 1; error 10; ok; error 10"},
		{"catch 0 900 2501 f n n hard; catch 0 2500 2500 f n n hard; catch 0 0 0 f n n hard; catch 0 0 2500 f n n hard", "error 1; back; back; back"},
		{"catch 0 901 900 m y n hard; catch 0 900 901 m y n hard; catch 0 900 900 m n ? hard; catch 0 900 900 m ? n hard; catch 0 900 900 m n y hard", "error 8; error 9; error 9; error 9; error 9"},
		// A trap that is set again was hauled all the same.
		{"set 0 2 0; catch 0 900 900 m n n hard; cut 0; catch 0 900 900 m n n hard", "ok; kept; ok; kept"},
		{"day 2; catch 0 900 900 m n n hard", "ok; error 10"},
	})
}

// P10.1: of one trap there are at most 30 animals on one day, an error that comes behind those of the animal.
func TestCatchMany(t *testing.T) {
	const animal = "catch 0 900 900 m n n hard"
	full := hauled + strings.Repeat(animal+"; ", 29) + "catch 0 100 100 m n n hard"
	fullReply := hauledReply + strings.Repeat("kept; ", 29) + "back"
	checkReplies(t, example(), [][2]string{
		{full + "; " + animal + "; catch 0 2501 900 m n n hard; catch 0 901 900 m n n hard; catch 0 900 900 m y n hard", fullReply + "; error 5; error 1; error 8; error 9"},
		{full + "; day 2; " + animal + "; seen 0 2 0; day 3; haul 0; " + animal, fullReply + "; ok; error 10; ok; ok; ok; kept"},
		{"seen 2 2 0; " + full + "; haul 2; catch 2 900 900 m n n hard; " + animal, "ok; " + fullReply + "; ok; kept; error 5"},
	})
	if d := kept(t, example(), full+"; "+animal); len(d.Taken) != 30 {
		t.Errorf("there are %d animals", len(d.Taken))
	}
}

// P10.1: an animal is kept if it surely may be, whatever it truly is, otherwise it goes back, notched if it surely has eggs.
func TestCatch(t *testing.T) {
	checkCatches(t, example(), [][2]string{
		{"catch 0 830 1270 m n n soft; catch 0 829 830 m n n hard; catch 0 829 829 m n n hard; catch 0 1270 1271 m n n hard; catch 0 1271 1271 m n n old", "kept; back; back; back; back"},
		{"catch 0 900 900 f n n hard; catch 0 900 900 f ? n hard; catch 0 900 900 f y n hard; catch 0 900 900 f n ? hard; catch 0 900 900 f n y hard", "kept; back; back notched; back; back"},
		{"catch 0 900 900 f ? y hard; catch 0 900 900 f y y hard; catch 0 100 100 f y n hard; catch 0 100 100 f ? n hard", "back; back notched; back notched; back"},
	})
	checkCatches(t, changed(example(), func(h *api.Harbour) { h.Gauge = api.Gauge{Low: 830, High: 1270, Soft: true} }), [][2]string{
		{"catch 0 900 900 m n n soft; catch 0 900 900 m n n hard; catch 0 900 900 m n n old; catch 0 900 900 f y y hard; catch 0 900 900 f y n soft; catch 0 829 900 f y ? old", "back; kept; kept; kept; back notched; back notched"},
	})
	checkCatches(t, changed(example(), func(h *api.Harbour) { h.Gauge = api.Gauge{Low: 0, High: 2500, Notch: true} }), [][2]string{
		{"catch 0 0 2500 f y n hard; catch 0 0 2500 f y ? hard; catch 0 0 2500 f ? y hard", "kept; back notched; back"},
	})
	d := kept(t, example(), hauled+"catch 0 830 1270 f n n soft; catch 0 900 901 f y n old; catch 0 900 900 m y n old")
	want := []api.Taken{
		{Tag: 0, Day: 1, Animal: api.Caught{Size: span(830, 1270), Sex: api.Female, Eggs: api.Never, Notch: api.Never, Shell: api.ShellSoft}, Fate: api.FateKept},
		{Tag: 0, Day: 1, Animal: api.Caught{Size: span(900, 901), Sex: api.Female, Eggs: api.Sure, Notch: api.Never, Shell: api.ShellOld}, Fate: api.FateBack},
	}
	if !sameDesk(d, api.Desk{Day: 1, Reports: d.Reports, Taken: want}) {
		t.Errorf("the desk is %v", d)
	}
}

// P10.1: whales are numbered as they are seen first; the errors of "whale" in their order.
func TestWhale(t *testing.T) {
	checkReplies(t, example(), [][2]string{
		{"whale 1 10 0 9 0; whale 0 0 0 0 0; whale 2 0 0 0 0; whale 1 0 0 0 0; whale 3 0 0 0 0; whale 2 0 0 0 0", "error 6; ok; error 6; ok; error 6; ok"},
		// One that is refused has no number.
		{"whale 0 10 10 0 0; whale 1 0 0 0 0; whale 0 0 10 0 0; whale 0 0 0 2 2; whale 0 0 0 0 2; whale 1 0 0 0 0; whale 0 9 9 1 1; whale 1 0 0 0 0", "error 1; error 6; error 1; error 1; error 1; error 6; ok; ok"},
		{"whale 0 3 2 0 2; whale 0 3 2 0 0; whale 0 2 3 1 0; whale 0 2 3 0 1; whale 0 9 8 0 0", "error 1; error 8; error 8; ok; error 8"},
		{"whale 0 2 3 0 0; whale 0 4 4 0 0; whale 0 3 4 0 0; whale 0 2 2 0 0; whale 0 3 3 1 1; whale 0 3 3 0 1", "ok; error 9; ok; error 9; error 9; ok"},
		// All that was seen counts, also what was seen long ago.
		{"whale 0 0 0 0 0; day 1; whale 0 3 3 0 0; whale 0 2 2 1 1; day 3; whale 0 7 9 0 0; whale 0 6 9 0 0; whale 0 7 9 0 0", "ok; ok; error 9; ok; ok; error 9; ok; error 9"},
	})
	still := changed(example(), func(h *api.Harbour) { h.Speed, h.Memory = 0, 0 })
	checkReplies(t, still, [][2]string{{"whale 0 0 0 0 0; day 90; whale 0 1 1 0 0; whale 0 0 1 0 1; whale 1 1 1 0 0", "ok; ok; error 9; ok; ok"}})
	d := kept(t, example(), "whale 0 1 2 0 1; whale 0 5 5 0 0; day 2; whale 1 9 9 1 1; whale 0 0 3 0 0")
	if want := []api.Sight{{X: span(1, 2), Rows: span(0, 1)}, {Whale: 1, Day: 2, X: one(9), Rows: one(1)}, {Day: 2, X: span(0, 3)}}; !sameDesk(d, api.Desk{Day: 2, Sights: want}) {
		t.Errorf("the desk is %v", d)
	}
}

// P10.1: there are at most 6 whales, and 40 sights; those that do not count any more are whales, too.
func TestManyWhales(t *testing.T) {
	six, sixReply := "", ""
	for i := range 6 {
		six += "whale " + strconv.Itoa(i) + " 0 0 0 0; "
		sixReply += "ok; "
	}
	checkReplies(t, example(), [][2]string{
		{six + "whale 6 0 0 0 0; whale 7 0 0 0 0; whale 6 10 0 0 0; day 59; whale 6 0 0 0 0; whale 5 0 0 0 0", sixReply + "error 1; error 6; error 1; ok; error 1; ok"},
		{six + strings.Repeat("whale 5 0 0 0 0; ", 34) + "whale 5 0 0 0 0; whale 5 10 0 0 0; whale 6 0 0 0 0; whale 7 0 0 0 0; day 59; whale 5 0 0 0 0", sixReply + strings.Repeat("ok; ", 34) + "error 5; error 5; error 1; error 6; ok; error 5"},
		{strings.Repeat("whale 0 0 0 0 0; ", 40) + "whale 0 0 0 0 0; whale 1 0 0 0 0; whale 2 0 0 0 0", strings.Repeat("ok; ", 40) + "error 5; error 5; error 6"},
	})
}

// P10.1: behind a sight each trap is called in that a whale may meet with a rope that may not part, on its day or as many days more as the harbour says, but not behind the last day.
func TestCalls(t *testing.T) {
	out := "day 55; seen 0 2 0; seen 1 4 0; seen 2 5 0; seen 3 9 1; "
	outReply := "ok; ok; ok; ok; ok; "
	for name, c := range map[string]struct {
		change      func(h *api.Harbour)
		lines, want string
	}{
		"as it is":        {func(h *api.Harbour) {}, "whale 0 0 0 0 0", "haul 0 56 1 57 3 60"},
		"from afar":       {func(h *api.Harbour) { h.Speed = 1 }, "whale 0 0 0 1 1", "haul 0 57 1 59"},
		"Ahead 4":         {func(h *api.Harbour) { h.Ahead = 4 }, "whale 0 0 0 0 0", "haul 0 56 1 57"},
		"Ahead 1":         {func(h *api.Harbour) { h.Ahead = 1 }, "whale 0 0 0 0 0", "haul 0 56"},
		"Ahead 0":         {func(h *api.Harbour) { h.Ahead = 0 }, "whale 0 0 0 0 0; whale 1 2 4 0 1", "ok; haul 0 55 1 55"},
		"Ahead 59":        {func(h *api.Harbour) { h.Ahead, h.Speed = 59, 0 }, "whale 0 9 9 1 1; whale 1 5 5 0 0", "haul 3 55; haul 3 55"},
		"one day less":    {func(h *api.Harbour) { h.Ahead, h.Speed = 59, 0 }, "whale 0 8 8 0 0", "ok"},
		"a weak rope":     {func(h *api.Harbour) { h.Pull = 899 }, "whale 0 4 4 0 0", "haul 0 56 1 55 3 58"},
		"it surely parts": {func(h *api.Harbour) { h.Pull = 900 }, "whale 0 4 4 0 0", "haul 0 56 3 58"},
		"a second whale":  {func(h *api.Harbour) {}, "whale 0 0 0 0 0; whale 1 8 8 0 0", "haul 0 56 1 57 3 60; haul 0 56 1 57 3 56"},
		"an error":        {func(h *api.Harbour) {}, "whale 0 0 0 0 0; whale 0 9 9 0 0", "haul 0 56 1 57 3 60; error 9"},
	} {
		if got := replies(t, changed(example(), c.change), out+c.lines); got != outReply+c.want {
			t.Errorf("%s: the replies are %s, not %s", name, got, c.want)
		}
	}
	checkReplies(t, example(), [][2]string{
		// Whales that do not count any more call no trap in.
		{"whale 0 0 0 0 0; day 31; seen 0 2 0; whale 1 9 9 0 0; day 32; whale 0 0 9 0 1", "ok; ok; ok; haul 0 35; ok; haul 0 32"},
		// A trap that is hauled is not called in, nor is a ghost.
		{"seen 0 2 0; seen 3 2 0; day 1; haul 0; cut 3; whale 0 2 2 0 0; day 2; seen 0 2 0; seen 3 2 0; whale 0 2 2 0 0", "ok; ok; ok; ok; ok; ok; ok; ok; ok; haul 0 2"},
		// No day is behind the last one.
		{"day 36498; seen 0 5 0; whale 0 0 0 0 0; day 36499; whale 0 2 2 0 0; whale 1 5 5 0 1", "ok; ok; ok; ok; ok; haul 0 36499"},
		{"day 36497; seen 0 4 0; whale 0 0 0 0 0; day 36499; whale 0 4 4 0 0", "ok; ok; haul 0 36499; ok; haul 0 36499"},
	})
}
