package bay_test

import (
	"testing"

	"homarus/api"
	"homarus/bay"
)

// P10.1: where a trap is.
func TestWhere(t *testing.T) {
	checkReplies(t, example(), [][2]string{
		{"where 0; where 3; where 4", "home; home; error 6"},
		{"set 0 2 1; seen 3 9 0; where 0; where 1; where 3", "ok; ok; out 2 1; home; out 9 0"},
		{"set 0 2 1; day 9; cut 0; where 0; day 10; seen 0 9 0; where 0; day 11; where 0; haul 0; where 0", "ok; ok; ok; ghost 2 1; ok; ok; ghost 9 0; ok; ghost 9 0; ok; home"},
		{"set 0 0 0; where 0", "ok; out 0 0"},
	})
}

// P10.1: who holds a cell, on the day of the desk.
func TestHolder(t *testing.T) {
	checkReplies(t, example(), [][2]string{
		{"holder 0 0; holder 3 0; holder 3 1; holder 9 1; holder 10 0; holder 0 2; holder 999999 999999", "0; 1; 0; 2; error 1; error 1; error 1"},
		{"holder 6 0; day 12; holder 6 0; day 17; holder 6 0; holder 6 1; day 20; holder 6 0; day 31; holder 6 0", "1; ok; 0; ok; 0; 2; ok; 2; ok; 1"},
		{"day 377; holder 6 0; day 36499; holder 6 0", "ok; 0; ok; 1"},
	})
}

// P10.1: faults are named in one line, trap by trap, and then licence by licence.
func TestFaults(t *testing.T) {
	checkReplies(t, example(), [][2]string{
		{"faults; set 0 2 0; faults; day 101; faults; haul 0; faults", "none; ok; none; ok; season 0; ok; none"},
		{"seen 0 3 0; faults; day 10; faults; day 20; faults; cut 0; faults; day 200; faults", "ok; place 0; ok; none; ok; place 0; ok; ghost 0; ok; ghost 0"},
		{"seen 0 2 0; seen 1 2 0; faults; cut 1; faults", "ok; ok; many 0; ok; ghost 1"},
		{"day 101; seen 1 9 0; seen 3 0 0; seen 0 2 0; seen 2 9 1; cut 2; faults", "ok; ok; ok; ok; ok; ok; season 0 season 1 place 1 ghost 2 season 3 place 3 many 0"},
	})
	checkReplies(t, most(0, 0, 1), [][2]string{{"seen 2 0 0; faults; seen 4 9 0; seen 5 9 1; faults", "ok; many 0 many 1; ok; ok; season 4 season 5 many 0 many 1 many 2"}})
}

// P10.1: dangers are named in one line, whale by whale, and for each one trap by trap.
func TestDanger(t *testing.T) {
	out := "seen 0 2 0; seen 1 2 0; seen 2 2 0; seen 3 9 1; "
	outReply := "ok; ok; ok; ok; "
	both := outReply + "haul 0 0 1 0 3 4; haul 0 0 1 0 3 0; "
	checkReplies(t, example(), [][2]string{
		{"danger; " + out + "danger", "none; " + outReply + "none"},
		{out + "whale 0 2 2 0 0; whale 1 9 9 1 1; danger", both + "0 0 sure 0 1 open 1 3 sure"},
		{out + "whale 0 2 2 0 0; whale 1 9 9 1 1; day 3; danger", both + "ok; 0 0 open 0 1 open 1 3 open"},
		{out + "whale 0 2 2 0 0; whale 1 9 9 1 1; day 4; danger", both + "ok; 0 0 open 0 1 open 0 3 open 1 0 open 1 1 open 1 3 open"},
		{out + "whale 0 2 2 0 0; whale 1 9 9 1 1; day 31; danger", both + "ok; none"},
		{out + "whale 0 2 2 0 0; whale 1 9 9 1 1; cut 0; day 1; danger; haul 3; danger", both + "ok; ok; 0 1 open 1 3 open; ok; 0 1 open"},
		{out + "whale 0 1 1 0 0; danger", outReply + "haul 0 1 1 1 3 4; none"},
	})
	for pull, want := range map[int]string{699: "0 0 sure 0 1 sure", 700: "0 0 sure 0 1 open", 899: "0 0 sure 0 1 open", 900: "0 0 sure", 5000: "0 0 sure"} {
		h := changed(example(), func(h *api.Harbour) { h.Pull, h.Ahead = pull, 0 })
		calls := "haul 0 0 1 0"
		if pull >= 900 {
			calls = "haul 0 0"
		}
		checkReplies(t, h, [][2]string{{out + "whale 0 2 2 0 0; danger", outReply + calls + "; " + want}})
	}
}

// P10.1: the least and the greatest number of kept animals of some sizes.
func TestCount(t *testing.T) {
	checkReplies(t, example(), [][2]string{{"count 0 2500; count 0 2501; count 2501 0; count 901 900; count 900 900; count 2500 2500; count 0 0", "0 0; error 1; error 1; error 8; 0 0; 0 0; 0 0"}})
	checkCatches(t, example(), [][2]string{
		{"catch 0 900 900 m n n hard; catch 0 900 910 m n n hard; catch 0 890 905 m n n hard; catch 0 1000 1010 m n n hard; count 900 900; count 900 910; count 890 905; count 906 910; count 911 999; count 0 2500; count 1000 1009; count 889 1011; count 0 889; count 0 890; count 1010 2500; count 1011 2500",
			"kept; kept; kept; kept; 1 3; 2 3; 2 3; 0 1; 0 0; 4 4; 0 1; 4 4; 0 0; 0 1; 0 1; 0 0"},
		// Animals that went back do not count, those of other days do.
		{"catch 0 800 800 m n n hard; catch 0 900 900 f y n hard; catch 0 900 900 f n n hard; count 0 2500; day 9; count 0 2500; seen 0 2 0; day 10; haul 0; catch 0 900 900 m n n hard; count 900 900",
			"back; back notched; kept; 1 1; ok; 1 1; ok; ok; ok; kept; 2 2"},
	})
	// Counting asks for sizes alone, whatever the gauge of the harbour is.
	checkCatches(t, changed(example(), func(h *api.Harbour) { h.Gauge = api.Gauge{Low: 0, High: 2500} }), [][2]string{
		{"catch 0 900 900 f y y soft; catch 0 0 2500 f ? ? hard; count 0 2500; count 900 900; count 0 0; count 2500 2500", "kept; kept; 2 2; 1 2; 0 1; 0 1"},
	})
}

// checkReport holds a report of a list of lines against the one that is wanted.
func checkReport(t *testing.T, h api.Harbour, lines, want string) {
	t.Helper()
	if got, e := bay.Report(h, diary(lines)); got != diary(want) || e != api.OK {
		t.Errorf("%s: the report is %q %d, not %q", lines, got, e, diary(want))
	}
}

// P10.2: the chapter's example, and reports of all that there may be.
func TestReport(t *testing.T) {
	const noTrade = "; grade chick 0 0 0 0 0 0 0 0 0 0 0; grade select 0 0 0 0 0 0 0 0 0 0 0; grade cull 0 0 0 0 0 0 0 0 0 0 0; end"
	checkReport(t, example(), "", "day 0; kept 0; back 0"+noTrade)
	checkReport(t, example(), "set 0 2 0; day 3", "day 3; trap 0 out 2 0 0; kept 0; back 0"+noTrade)
	checkReport(t, example(), "day 36499", "day 36499; kept 0; back 0"+noTrade)
	// Since follows the state alone.
	checkReport(t, example(), "day 2; seen 3 9 1; seen 1 2 1; day 4; seen 3 8 0; cut 1; seen 2 7 0; day 6; seen 1 5 0; haul 2; set 0 0 1; day 7; haul 0; set 0 1 0; x", "day 7; trap 0 out 1 0 7; trap 1 ghost 5 0 4; trap 3 out 8 0 2; kept 0; back 0"+noTrade)
	checkReport(t, example(), "set 0 2 0; day 1; haul 0; day 2; set 0 2 0", "day 2; trap 0 out 2 0 2; kept 0; back 0"+noTrade)
	checkReport(t, example(), four+"buy chick 3 1500; buy select 1 700; drip chick 20; drip chick 3; die chick 1 480; sell chick 1 470; back select 1 690; back select 1 700; buy cull 1 500; sell cull 1 500",
		"day 1; kept 4; back 1; grade chick 3 1500 1 480 1 470 0 0 1 527 23; grade select 1 700 0 0 0 0 1 700 0 0 0; grade cull 1 500 0 0 1 500 0 0 0 0 0; end")
	checkReport(t, example(), four+"catch 0 900 900 f y n hard; day 8; buy chick 2 1000; back chick 1 400; whale 0 2 2 0 0; where 0; danger", "day 8; kept 4; back 2; grade chick 2 1000 0 0 0 0 1 400 1 600 0; grade select 0 0 0 0 0 0 0 0 0 0 0; grade cull 0 0 0 0 0 0 0 0 0 0 0; end")
	h := changed(example(), func(h *api.Harbour) {
		h.Fleet.Tags, h.Ropes = nil, nil
		h.Market = []api.Grade{{Name: "abcdefgh", Low: 1, High: 20000, Price: 100000}}
	})
	checkReport(t, h, "day 5; where 0", "day 5; kept 0; back 0; grade abcdefgh 0 0 0 0 0 0 0 0 0 0 0; end")
}
