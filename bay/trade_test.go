package bay_test

import (
	"testing"

	"homarus/api"
)

// four is a haul of four animals that are kept, and one that goes back.
const four = "set 0 2 0; day 1; haul 0; catch 0 900 900 m n n hard; catch 0 900 900 m n n hard; catch 0 900 900 m n n soft; catch 0 900 900 f n n hard; catch 0 100 100 m n n hard; "

const fourReply = "ok; ok; ok; kept; kept; kept; kept; back; "

// checkSales holds the replies to lines behind four kept animals against those that are wanted.
func checkSales(t *testing.T, wanted [][2]string) {
	t.Helper()
	for _, c := range wanted {
		checkReplies(t, example(), [][2]string{{four + c[0], fourReply + c[1]}})
	}
}

// P10.1: no more animals are bought, less those that went back, than were kept, of all grades and on all days; this comes before the errors of the ledger, but behind a name that no grade has.
func TestBuy(t *testing.T) {
	checkReplies(t, example(), [][2]string{{"buy x 1 1; buy chick 1 1; buy chick 1 0; buy chick 0 0; buy chick 0 1", "error 6; error 4; error 4; error 2; error 2"}})
	checkSales(t, [][2]string{
		{"buy chick 5 2500; buy chick 4 2000; buy chick 1 500; buy x 1 500; buy chick 999999 999999", "error 4; ok; error 4; error 6; error 4"},
		{"buy chick 5 4; buy chick 4 3; buy chick 4 4; buy chick 0 1", "error 4; error 9; ok; error 2"},
		{"buy chick 2 1000; buy select 1 600; buy cull 2 900; buy cull 1 450; buy select 1 1", "ok; ok; error 4; ok; error 4"},
		// What died, or was sold, was bought; what went back was not.
		{"buy chick 4 2000; die chick 1 500; sell chick 1 500; buy chick 1 500; back chick 1 500; buy chick 2 1000; buy select 1 600; buy select 1 600", "ok; ok; ok; error 4; ok; error 4; ok; error 4"},
		{"buy chick 4 2000; back chick 4 2000; buy cull 4 2000; back cull 2 1000; buy select 2 1300; left chick; left select; left cull", "ok; ok; ok; ok; ok; 0 0; 2 1300; 2 1000"},
		// What is caught later can be bought, too.
		{"buy chick 4 2000; buy chick 1 500; catch 0 900 900 m n n hard; day 9; buy chick 1 500", "ok; error 4; kept; ok; ok"},
		{"buy chick 1 999999; buy chick 1 999999; left chick", "ok; ok; 2 1999998"},
	})
}

// P10.1: animals die, are sold, and go back, and water drips off, as far as the ledger is valid.
func TestLedger(t *testing.T) {
	for _, word := range []string{"die", "sell", "back"} {
		checkReplies(t, example(), [][2]string{{word + " x 1 1; " + word + " chick 1 1; " + word + " chick 0 0; " + word + " chick 1 0", "error 6; error 4; error 2; error 4"}})
		checkSales(t, [][2]string{
			{"buy chick 3 1500; " + word + " chick 4 1400; " + word + " chick 3 1501; " + word + " chick 2 1500; " + word + " chick 3 1499; " + word + " select 1 1; " + word + " chick 3 1500; left chick",
				"ok; error 4; error 4; error 9; error 9; error 4; ok; 0 0"},
			{"buy chick 3 1500; " + word + " chick 1 1499; " + word + " chick 1 1498; left chick; " + word + " chick 1 2; " + word + " chick 1 0; left chick", "ok; error 9; ok; 2 2; error 9; ok; 1 2"},
			{"buy chick 3 1500; " + word + " chick 1 0; left chick; " + word + " chick 0 1", "ok; ok; 2 1500; error 2"},
		})
	}
	checkSales(t, [][2]string{
		{"drip x 1; drip chick 1; drip chick 0; buy chick 3 1500; drip select 1; drip chick 1501; drip chick 1498; drip chick 1497; left chick; drip chick 0; drip chick 1", "error 6; error 4; ok; ok; error 4; error 4; error 9; ok; 3 3; ok; error 9"},
		{"left x; left chick; buy chick 3 1500; buy cull 1 500; left chick; left cull; left select", "error 6; 0 0; ok; ok; 3 1500; 1 500; 0 0"},
	})
	d := kept(t, example(), four+"buy chick 4 2000; buy cull 1 500; drip chick 9; die chick 1 480; sell cull 1 1; sell chick 1 490; back chick 1 500; buy select 1 600; day 3")
	want := []api.Event{
		{Kind: api.EventBuy, Count: 4, Grams: 2000}, {Kind: api.EventDrip, Grams: 9}, {Kind: api.EventDie, Count: 1, Grams: 480}, {Kind: api.EventSell, Count: 1, Grams: 490},
		{Kind: api.EventBack, Count: 1, Grams: 500}, {Kind: api.EventBuy, Grade: 1, Count: 1, Grams: 600},
	}
	if !sameDesk(d, api.Desk{Day: 3, Reports: d.Reports, Taken: d.Taken, Events: want}) {
		t.Errorf("the desk is %v", d)
	}
}
