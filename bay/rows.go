package bay

import (
	"slices"
	"strconv"
	"strings"

	"homarus/api"
	"homarus/trade"
)

// rows returns the rows of a report of the desk.
func (d *desk) rows() []string {
	list := []string{row("day", numbers(d.Day))}
	for tag := range d.Fleet.Tags {
		if spot := d.spot(tag); spot.State != api.TrapHome {
			list = append(list, row("trap", numbers(tag), stateWord(spot), numbers(spot.X, spot.Row, spot.Since)))
		}
	}
	list = append(list, row("kept", numbers(len(d.with(api.FateKept)))), row("back", numbers(len(d.with(api.FateBack)))))
	balances, _ := trade.Book(d.Market, d.Events)
	for grade, b := range balances {
		list = append(list, row("grade", d.Market[grade].Name, numbers(numbersOf(b)...)))
	}
	return append(list, "end")
}

// numbersOf returns the numbers of a balance in the order of a report.
func numbersOf(b api.Balance) []int {
	return slices.Concat(b.Bought[:], b.Died[:], b.Sold[:], b.Back[:], b.Left[:], []int{b.Dripped})
}

// row puts words into one row.
func row(words ...string) string { return strings.Join(words, " ") }

// numbers puts numbers into one row.
func numbers(list ...int) string {
	var words []string
	for _, n := range list {
		words = append(words, strconv.Itoa(n))
	}
	return row(words...)
}

// text returns rows, each with its end.
func text(rows []string) string {
	var all strings.Builder
	for _, r := range rows {
		all.WriteString(r)
		all.WriteString(feed)
	}
	return all.String()
}
