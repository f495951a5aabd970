package ground

import (
	"iter"

	"homarus/api"
)

// Lines returns the lines of a day, each row by row.
func Lines(b api.Bay, day int) ([][]int, api.Errno) {
	if e := checkDay(b, day); e != api.OK {
		return nil, e
	}
	list := make([][]int, len(b.Lines))
	for row := range b.Deep {
		for line, x := range lines(b, day, row) {
			list[line] = append(list[line], x)
		}
	}
	return list, api.OK
}

// Holder returns the gang that holds a cell on a day.
func Holder(b api.Bay, day, x, row int) (int, api.Errno) {
	if e := checkDay(b, day); e != api.OK {
		return 0, e
	}
	if !isCell(b, x, row) {
		return 0, api.ErrRange
	}
	return holder(b, day, x, row), api.OK
}

// Where says of each gang whether it holds the cell of a row that is in one of the columns x.
func Where(b api.Bay, day int, x api.Span, row int) ([]int, api.Errno) {
	if e := checkDay(b, day); e != api.OK {
		return nil, e
	}
	if !isCell(b, x.Lo, row) || !isCell(b, x.Hi, row) {
		return nil, api.ErrRange
	}
	if x.Lo > x.Hi {
		return nil, api.ErrOrder
	}
	held := make([]int, b.Gangs)
	for column := x.Lo; column <= x.Hi; column++ {
		held[holder(b, day, column, row)]++
	}
	list := make([]int, b.Gangs)
	for gang, columns := range held {
		list[gang] = verdict(columns, x.Hi-x.Lo+1)
	}
	return list, api.OK
}

// verdict says whether something is so in all cases, in none, or in some of them.
func verdict(so, all int) int {
	switch so {
	case all:
		return api.Sure
	case 0:
		return api.Never
	}
	return api.Open
}

// Changes returns the days of the year on which a cell has another holder than on the day before.
func Changes(b api.Bay, x, row int) ([]int, api.Errno) {
	if e := Check(b); e != api.OK {
		return nil, e
	}
	if !isCell(b, x, row) {
		return nil, api.ErrRange
	}
	var days []int
	before := holder(b, api.YearDays-1, x, row)
	for day := range api.YearDays {
		now := holder(b, day, x, row)
		if now != before {
			days = append(days, day)
		}
		before = now
	}
	return days, api.OK
}

func checkDay(b api.Bay, day int) api.Errno {
	if e := Check(b); e != api.OK {
		return e
	}
	if !isDay(day) {
		return api.ErrRange
	}
	return api.OK
}

// lines hands out where each line lies in a row on a day, from the line 0 on.
func lines(b api.Bay, day, row int) iter.Seq2[int, int] {
	return func(yield func(int, int) bool) {
		left := 0
		for line := range b.Lines {
			left = min(max(wish(b, day, line, row), left), b.Wide)
			if !yield(line, left) {
				return
			}
		}
	}
}

// wish returns where a line would like to lie in a row on a day, even if that is out of the bay.
func wish(b api.Bay, day, line, row int) int {
	x := b.Lines[line][row]
	for _, c := range b.Customs {
		if c.Line == line && within(row, c.Rows.Lo, c.Rows.Hi) && inYear(day, c.Days) {
			x += c.Shift
		}
	}
	return x
}

func holder(b api.Bay, day, x, row int) int {
	gang := 0
	for line, left := range lines(b, day, row) {
		if x < left {
			break
		}
		gang = line + 1
	}
	return gang
}
