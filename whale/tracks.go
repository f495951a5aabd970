package whale

import (
	"iter"

	"homarus/api"
)

// Reach returns the columns and the rows in which a whale may be on a day.
func Reach(b api.Bay, w api.Whales, whale, day int) (x, rows api.Span, e api.Errno) {
	if e := Check(b, w); e != api.OK {
		return api.Span{}, api.Span{}, e
	}
	if !isIndex(whale, w.Many) {
		return api.Span{}, api.Span{}, api.ErrMissing
	}
	if !isDay(day) {
		return api.Span{}, api.Span{}, api.ErrRange
	}
	where := reach(b, w, whale, day)
	return where[byColumn], where[byRow], api.OK
}

// The directions of an area.
const (
	byColumn = 0
	byRow    = 1
)

// area is cells: all rows of some columns. A whale swims in each direction as if the other one were not there.
type area [2]api.Span

func wholeBay(b api.Bay) area { return area{{Lo: 0, Hi: b.Wide - 1}, {Lo: 0, Hi: b.Deep - 1}} }

// wider returns the area with all that is at most so far from it, also outside of the bay.
func (a area) wider(by int) area {
	for direction, s := range a {
		a[direction] = api.Span{Lo: s.Lo - by, Hi: s.Hi + by}
	}
	return a
}

// shared returns what two areas have both.
func (a area) shared(other area) area {
	for direction, s := range other {
		a[direction] = api.Span{Lo: max(a[direction].Lo, s.Lo), Hi: min(a[direction].Hi, s.Hi)}
	}
	return a
}

func (a area) has(x, row int) bool {
	return within(x, a[byColumn].Lo, a[byColumn].Hi) && within(row, a[byRow].Lo, a[byRow].Hi)
}

func (a area) isEmpty() bool {
	return a[byColumn].Lo > a[byColumn].Hi || a[byRow].Lo > a[byRow].Hi
}

func (a area) isOneCell() bool {
	return a[byColumn].Lo == a[byColumn].Hi && a[byRow].Lo == a[byRow].Hi
}

// reach returns the cells that are near enough to all sights of a whale. If it has a track, these are the cells of its tracks: the least numbers of all days make a track, and so do the greatest ones.
func reach(b api.Bay, w api.Whales, whale, day int) area {
	where := wholeBay(b)
	for _, s := range w.Sights {
		if s.Whale == whale {
			apart := max(day-s.Day, s.Day-day)
			where = where.shared(area{s.X, s.Rows}.wider(apart * w.Speed))
		}
	}
	return where
}

// hasTrack says whether a whale has a track: it has none if two sights are too far from each other, which is seen on the days of both.
func hasTrack(b api.Bay, w api.Whales, whale int) bool {
	for day := range seenOn(w, whale) {
		if reach(b, w, whale, day).isEmpty() {
			return false
		}
	}
	return true
}

// seenOn hands out the days on which a whale was seen.
func seenOn(w api.Whales, whale int) iter.Seq[int] {
	return func(yield func(int) bool) {
		for _, s := range w.Sights {
			if s.Whale == whale && !yield(s.Day) {
				return
			}
		}
	}
}

// days hands out the days from one to another one.
func days(from, to int) iter.Seq[int] {
	return func(yield func(int) bool) {
		for day := from; day <= to; day++ {
			if !yield(day) {
				return
			}
		}
	}
}
