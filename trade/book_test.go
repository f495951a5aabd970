package trade_test

import (
	"math"
	"slices"
	"strings"
	"testing"

	"homarus/api"
	"homarus/trade"
)

func event(kind, grade, count, grams int) api.Event {
	return api.Event{Kind: kind, Grade: grade, Count: count, Grams: grams}
}

func buy(grade, count, grams int) api.Event { return event(api.EventBuy, grade, count, grams) }

func die(grade, count, grams int) api.Event { return event(api.EventDie, grade, count, grams) }

func sell(grade, count, grams int) api.Event { return event(api.EventSell, grade, count, grams) }

func back(grade, count, grams int) api.Event { return event(api.EventBack, grade, count, grams) }

func drip(grade, grams int) api.Event { return event(api.EventDrip, grade, 0, grams) }

// exampleLedger is that of the chapter's examples.
func exampleLedger() []api.Event {
	return []api.Event{buy(0, 10, 5000), drip(0, 100), die(0, 1, 480), sell(0, 4, 2000)}
}

// exampleBalance is what became of its first grade.
func exampleBalance() api.Balance {
	return api.Balance{Bought: [2]int{10, 5000}, Died: [2]int{1, 480}, Sold: [2]int{4, 2000}, Left: [2]int{5, 2420}, Dripped: 100}
}

// P8.3: the chapter's example, and what becomes of grades by one event, and by several ones of each kind.
func TestBook(t *testing.T) {
	for name, c := range map[string]struct {
		l    []api.Event
		want []api.Balance
	}{
		"nothing":     {nil, make([]api.Balance, 3)},
		"the example": {exampleLedger(), []api.Balance{exampleBalance(), {}, {}}},
		"bought":      {[]api.Event{buy(1, 2, 3)}, []api.Balance{{}, {Bought: [2]int{2, 3}, Left: [2]int{2, 3}}, {}}},
		"all died":    {[]api.Event{buy(2, 2, 9), die(2, 2, 9)}, []api.Balance{{}, {}, {Bought: [2]int{2, 9}, Died: [2]int{2, 9}}}},
		"all sold":    {[]api.Event{buy(2, 2, 9), sell(2, 2, 9)}, []api.Balance{{}, {}, {Bought: [2]int{2, 9}, Sold: [2]int{2, 9}}}},
		"all back":    {[]api.Event{buy(2, 2, 9), back(2, 2, 9)}, []api.Balance{{}, {}, {Bought: [2]int{2, 9}, Back: [2]int{2, 9}}}},
		"dripped":     {[]api.Event{buy(2, 2, 9), drip(2, 7)}, []api.Balance{{}, {}, {Bought: [2]int{2, 9}, Left: [2]int{2, 2}, Dripped: 7}}},
		"no drop":     {[]api.Event{drip(0, 0)}, make([]api.Balance, 3)},
		"sold twice": {[]api.Event{buy(0, 5, 50), sell(0, 2, 20), buy(0, 1, 9), sell(0, 1, 0), drip(0, 3), drip(0, 0), back(0, 1, 2), back(0, 1, 3), die(0, 1, 31)}, []api.Balance{
			{Bought: [2]int{6, 59}, Died: [2]int{1, 31}, Sold: [2]int{3, 20}, Back: [2]int{2, 5}, Dripped: 3}, {}, {},
		}},
		"grades apart": {[]api.Event{buy(0, 5, 50), buy(1, 7, 70), sell(0, 2, 20), die(1, 1, 5), buy(2, 1, 1), back(2, 1, 1)}, []api.Balance{
			{Bought: [2]int{5, 50}, Sold: [2]int{2, 20}, Left: [2]int{3, 30}},
			{Bought: [2]int{7, 70}, Died: [2]int{1, 5}, Left: [2]int{6, 65}},
			{Bought: [2]int{1, 1}, Back: [2]int{1, 1}},
		}},
		"the most": {slices.Repeat([]api.Event{buy(0, 1000000, 1000000)}, 200), []api.Balance{{Bought: [2]int{200000000, 200000000}, Left: [2]int{200000000, 200000000}}, {}, {}}},
	} {
		if l, e := trade.Book(exampleMarket(), c.l); !slices.Equal(l, c.want) || e != api.OK {
			t.Errorf("%s: Book returns %v %d, not %v", name, l, e, c.want)
		}
	}
	one := []api.Grade{{Name: "a", Low: 1, High: 1}}
	if l, e := trade.Book(one, nil); !slices.Equal(l, make([]api.Balance, 1)) || e != api.OK {
		t.Errorf("Book returns %v %d", l, e)
	}
}

// ledgerError is a ledger, and the first error that it has with the market M.
type ledgerError struct {
	l    []api.Event
	want api.Errno
}

// formErrors are about single events.
func formErrors() map[string]ledgerError {
	errors := map[string]ledgerError{
		"200 events":             {slices.Repeat([]api.Event{drip(0, 0)}, 200), api.OK},
		"201 events":             {slices.Repeat([]api.Event{drip(0, 0)}, 201), api.ErrFull},
		"201 wrong events":       {make([]api.Event, 201), api.ErrFull},
		"one of no kind":         {make([]api.Event, 1), api.ErrKind},
		"kind 6":                 {[]api.Event{event(6, 0, 1, 1)}, api.ErrKind},
		"kind -1":                {[]api.Event{event(-1, 0, 1, 1)}, api.ErrKind},
		"kind before grade":      {[]api.Event{event(0, 3, 1, 1)}, api.ErrKind},
		"grade 3":                {[]api.Event{buy(3, 1, 1)}, api.ErrMissing},
		"grade -1":               {[]api.Event{buy(-1, 1, 1)}, api.ErrMissing},
		"grade 2":                {[]api.Event{buy(2, 1, 1)}, api.OK},
		"any grade":              {[]api.Event{drip(math.MaxInt, 0)}, api.ErrMissing},
		"grade before count":     {[]api.Event{buy(3, -1, 1)}, api.ErrMissing},
		"count -1":               {[]api.Event{buy(0, -1, 5)}, api.ErrRange},
		"count 1000000":          {[]api.Event{buy(0, 1000000, 1000000)}, api.OK},
		"count 1000001":          {[]api.Event{buy(0, 1000001, 1000000)}, api.ErrRange},
		"any count":              {[]api.Event{buy(0, math.MinInt, 5)}, api.ErrRange},
		"grams -1":               {[]api.Event{buy(0, 1, -1)}, api.ErrRange},
		"grams 1000000":          {[]api.Event{buy(0, 1, 1000000)}, api.OK},
		"grams 1000001":          {[]api.Event{buy(0, 1, 1000001)}, api.ErrRange},
		"any grams":              {[]api.Event{buy(0, 1, math.MaxInt)}, api.ErrRange},
		"range before form":      {[]api.Event{buy(0, 0, -1)}, api.ErrRange},
		"range of what drips":    {[]api.Event{event(api.EventDrip, 0, 1, 1000001)}, api.ErrRange},
		"one drips":              {[]api.Event{buy(0, 1, 9), event(api.EventDrip, 0, 1, 1)}, api.ErrForm},
		"one drips, too many":    {[]api.Event{event(api.EventDrip, 0, 1, 9)}, api.ErrForm},
		"wrong before the next":  {[]api.Event{buy(0, 0, 1), event(0, 0, 1, 1)}, api.ErrForm},
		"wrong behind a clash":   {[]api.Event{buy(0, 2, 1), event(0, 0, 1, 1)}, api.ErrClash},
		"wrong behind too many":  {[]api.Event{sell(0, 2, 1), event(0, 0, 1, 1)}, api.ErrShort},
		"the last one":           {append(exampleLedger(), event(7, 0, 1, 1)), api.ErrKind},
		"wrong before all of it": {append([]api.Event{buy(5, 1, 1)}, exampleLedger()...), api.ErrMissing},
	}
	for kind, word := range []string{api.EventBuy: "buy", api.EventDie: "die", api.EventSell: "sell", api.EventBack: "back"} {
		if word != "" {
			errors["no animal: "+word] = ledgerError{[]api.Event{buy(0, 1, 9), event(kind, 0, 0, 1)}, api.ErrForm}
			errors["form before too many grams: "+word] = ledgerError{[]api.Event{buy(0, 1, 9), event(kind, 0, 0, 10)}, api.ErrForm}
		}
	}
	return errors
}

// leftErrors are about what is left of a grade.
func leftErrors() map[string]ledgerError {
	errors := map[string]ledgerError{
		"the example":            {exampleLedger(), api.OK},
		"bought without grams":   {[]api.Event{buy(0, 1, 0)}, api.ErrClash},
		"bought too light":       {[]api.Event{buy(0, 9, 8)}, api.ErrClash},
		"bought just as heavy":   {[]api.Event{buy(0, 9, 9)}, api.OK},
		"bought light, to heavy": {[]api.Event{buy(0, 9, 90), buy(0, 9, 0)}, api.OK},
		"drips from nothing":     {[]api.Event{drip(0, 1)}, api.ErrShort},
		"nothing drips":          {[]api.Event{drip(0, 0), buy(0, 1, 1), drip(0, 0), sell(0, 1, 1), drip(0, 0)}, api.OK},
		"drips too much":         {[]api.Event{buy(0, 2, 9), drip(0, 10)}, api.ErrShort},
		"drips all":              {[]api.Event{buy(0, 2, 9), drip(0, 9)}, api.ErrClash},
		"drips nearly all":       {[]api.Event{buy(0, 2, 9), drip(0, 8)}, api.ErrClash},
		"drips as can be":        {[]api.Event{buy(0, 2, 9), drip(0, 7)}, api.OK},
		"drips of another one":   {[]api.Event{buy(0, 2, 9), drip(1, 1)}, api.ErrShort},
	}
	for kind, word := range []string{api.EventDie: "die", api.EventSell: "sell", api.EventBack: "back"} {
		if word == "" {
			continue
		}
		add := func(name string, count, grams int, want api.Errno) {
			errors[word+": "+name] = ledgerError{[]api.Event{buy(0, 3, 30), event(kind, 0, count, grams)}, want}
		}
		add("some", 2, 20, api.OK)
		add("all", 3, 30, api.OK)
		add("too many", 4, 30, api.ErrShort)
		add("too heavy", 3, 31, api.ErrShort)
		add("some, too heavy", 1, 31, api.ErrShort)
		add("all, and grams are left", 3, 29, api.ErrClash)
		add("all, without grams", 3, 0, api.ErrClash)
		add("all grams, and one is left", 2, 30, api.ErrClash)
		add("one gram is left for two", 1, 29, api.ErrClash)
		add("two grams are left for two", 1, 28, api.OK)
		add("one without grams", 1, 0, api.OK)
		errors[word+": from nothing"] = ledgerError{[]api.Event{event(kind, 0, 1, 0)}, api.ErrShort}
		errors[word+": of another grade"] = ledgerError{[]api.Event{buy(0, 3, 30), event(kind, 2, 1, 10)}, api.ErrShort}
		errors[word+": what drips is gone"] = ledgerError{[]api.Event{buy(0, 3, 30), drip(0, 5), event(kind, 0, 3, 30)}, api.ErrShort}
		errors[word+": before it is bought"] = ledgerError{[]api.Event{event(kind, 0, 3, 30), buy(0, 3, 30)}, api.ErrShort}
		errors[word+": twice"] = ledgerError{[]api.Event{buy(0, 3, 30), event(kind, 0, 2, 20), event(kind, 0, 2, 10)}, api.ErrShort}
	}
	return errors
}

// P8.3, P8.4, P8.6: Book, Ship, Write and Read name the first error of a ledger.
func TestLedgerErrors(t *testing.T) {
	for _, errors := range []map[string]ledgerError{formErrors(), leftErrors()} {
		for name, c := range errors {
			balances, e := trade.Book(exampleMarket(), c.l)
			if e != c.want || e != api.OK && len(balances) > 0 {
				t.Errorf("%s: Book returns %v %d, not %d", name, balances, e, c.want)
			}
			text, e := trade.Write(exampleMarket(), c.l)
			if e != c.want || e != api.OK && text != "" {
				t.Errorf("%s: Write returns %q %d, not %d", name, text, e, c.want)
			}
			if c.want == api.OK {
				continue
			}
			if chosen, cents, e := trade.Ship(exampleMarket(), c.l, make([]api.Order, 11), -1); len(chosen) > 0 || cents != 0 || e != c.want {
				t.Errorf("%s: Ship returns %v %d %d, not %d", name, chosen, cents, e, c.want)
			}
			if !isPaper(c.l) {
				continue
			}
			if l, row, e := trade.Read(exampleMarket(), trueText(exampleMarket(), c.l)); len(l) > 0 || row != 0 || e != c.want {
				t.Errorf("%s: Read returns %v %d %d, not %d", name, l, row, e, c.want)
			}
		}
	}
}

// isPaper says whether a ledger has a paper, though there may be something wrong with its numbers.
func isPaper(l []api.Event) bool {
	return !slices.ContainsFunc(l, func(x api.Event) bool {
		isRow := api.EventBuy <= x.Kind && x.Kind <= api.EventDrip && 0 <= x.Grade && x.Grade < 3 && (x.Kind != api.EventDrip || x.Count == 0)
		return !isRow || strings.Contains(trueText(exampleMarket(), []api.Event{x}), "-") || max(x.Count, x.Grams) > 9999999
	})
}
