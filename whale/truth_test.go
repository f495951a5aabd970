package whale_test

import (
	"maps"
	"slices"
	"strings"
	"testing"

	"homarus/api"
	"homarus/ground"
	"homarus/whale"
)

// track is a cell for each day, from a first one on. Before and after these days, on which all sights are, a whale may stay where it is.
type track []api.Cell

// far is the distance of two cells, as the chapter has it.
func far(a, b api.Cell) int {
	return max(a.X-b.X, b.X-a.X, a.Row-b.Row, b.Row-a.Row)
}

func isIn(n int, s api.Span) bool { return s.Lo <= n && n <= s.Hi }

func cellsOf(b api.Bay) []api.Cell {
	var cells []api.Cell
	for row := range b.Deep {
		for x := range b.Wide {
			cells = append(cells, api.Cell{X: x, Row: row})
		}
	}
	return cells
}

// isSeenThere says whether a cell is in all sights of a whale on a day.
func isSeenThere(w api.Whales, n, day int, c api.Cell) bool {
	return !slices.ContainsFunc(w.Sights, func(s api.Sight) bool {
		return s.Whale == n && s.Day == day && !(isIn(c.X, s.X) && isIn(c.Row, s.Rows))
	})
}

// tracks goes through all tracks of a whale, on so many days.
func tracks(b api.Bay, w api.Whales, n, first, length int) []track {
	var all []track
	var on func(t track)
	on = func(t track) {
		if len(t) == length {
			all = append(all, slices.Clone(t))
			return
		}
		for _, c := range cellsOf(b) {
			if (len(t) == 0 || far(t[len(t)-1], c) <= w.Speed) && isSeenThere(w, n, first+len(t), c) {
				on(append(t, c))
			}
		}
	}
	on(nil)
	return all
}

// maybe returns, day by day, the cells in which a whale may be: those that can be reached from the days before, and from which the days after can be.
func maybe(b api.Bay, w api.Whales, n, first, length int) []map[api.Cell]bool {
	where := make([]map[api.Cell]bool, length)
	for i := range where {
		where[i] = map[api.Cell]bool{}
		for _, c := range cellsOf(b) {
			where[i][c] = isSeenThere(w, n, first+i, c)
		}
	}
	keep := func(i, beside int) {
		for c, ok := range where[i] {
			near := false
			for d, there := range where[beside] {
				near = near || there && far(c, d) <= w.Speed
			}
			where[i][c] = ok && near
		}
	}
	for i := 1; i < length; i++ {
		keep(i, i-1)
	}
	for i := length - 2; i >= 0; i-- {
		keep(i, i+1)
	}
	return where
}

// firstDay returns a day, such that so many days from it on are days.
func (r random) firstDay(length int) int {
	last := api.LastDay - length + 1
	return []int{0, last, r.in(0, last)}[r.Intn(3)]
}

// scene is whales of a small bay with all of their tracks, traps and ropes.
type scene struct {
	b             api.Bay
	w             api.Whales
	tracks        [][]track
	f             api.Fleet
	l             []api.Report
	ropes         []api.Rope
	first, length int
}

// scene returns a scene whose whales all have tracks.
func (r random) scene() scene {
	for {
		s := scene{b: r.bay(4, 2), length: 4}
		s.first = r.firstDay(s.length)
		s.w = r.whales(s.b, 3, s.first, s.length)
		s.f = r.fleet(s.b)
		s.l, s.ropes = r.reports(s.b, s.f, s.first, s.length), r.ropes(s.f)
		for n := range s.w.Many {
			s.tracks = append(s.tracks, tracks(s.b, s.w, n, s.first, s.length))
		}
		if !slices.ContainsFunc(s.tracks, func(l []track) bool { return len(l) == 0 }) {
			return s
		}
	}
}

func (s scene) days() api.Span { return span(s.first, s.first+s.length-1) }

// P6.1, P6.7: all tracks of small bays are gone through: there is one if Check says so, and Reach is their cells.
func TestTracks(t *testing.T) {
	r := newRandom()
	with, without := 0, 0
	for range 6000 {
		b, length := r.bay(3, 3), r.in(1, 4)
		first := r.firstDay(length)
		w := r.whales(b, 2, first, length)
		w.Speed = r.in(0, w.Speed)
		want := api.OK
		for n := range w.Many {
			all := tracks(b, w, n, first, length)
			if len(all) == 0 {
				want = api.ErrClash
				continue
			}
			for i := range length {
				cells := map[api.Cell]bool{}
				for _, one := range all {
					cells[one[i]] = true
				}
				checkReach(t, b, w, n, first+i, cells)
			}
		}
		if e := whale.Check(b, w); e != want {
			t.Fatalf("%v %v: Check returns %d, not %d", b, w, e, want)
		}
		if want == api.OK {
			with++
		} else {
			without++
		}
	}
	if with < 100 || without < 50 {
		t.Error(with, "with tracks,", without, "without")
	}
}

// checkReach holds the cells in which a whale may be against Reach, if all whales have tracks.
func checkReach(t *testing.T, b api.Bay, w api.Whales, n, day int, cells map[api.Cell]bool) {
	x, rows, e := whale.Reach(b, w, n, day)
	if e == api.ErrClash {
		return
	}
	for _, c := range cellsOf(b) {
		if e != api.OK || cells[c] != (isIn(c.X, x) && isIn(c.Row, rows)) {
			t.Fatalf("%v %v: on the day %d the whale %d is in %v %v %d, and in %v %t", b, w, day, n, x, rows, e, c, cells[c])
		}
	}
}

// P6.1, P6.7: more days and cells; the cells of tracks are found from day to day, to and fro.
func TestLongTracks(t *testing.T) {
	r := newRandom()
	with, without := 0, 0
	for range 150 {
		b, length := r.bay(12, 6), r.in(5, 12)
		first := r.firstDay(length)
		w := r.whales(b, 2, first, length)
		want := api.OK
		for n := range w.Many {
			for i, cells := range maybe(b, w, n, first, length) {
				if !slices.Contains(slices.Collect(maps.Values(cells)), true) {
					want = api.ErrClash
					break
				}
				checkReach(t, b, w, n, first+i, cells)
			}
		}
		if e := whale.Check(b, w); e != want {
			t.Fatalf("%v %v: Check returns %d, not %d", b, w, e, want)
		}
		if want == api.OK {
			with++
		} else {
			without++
		}
	}
	if with < 40 || without < 10 {
		t.Error(with, "with tracks,", without, "without")
	}
}

// P6.8: with a sight more no Reach is wider; sights may stand in any order.
func TestMoreSights(t *testing.T) {
	r := newRandom()
	within := func(a, b api.Span) bool { return isIn(a.Lo, b) && isIn(a.Hi, b) }
	for range 2000 {
		b := r.bay(200, 20)
		w := r.whales(b, 6, r.firstDay(8), 3)
		if whale.Check(b, w) != api.OK || w.Many == 0 {
			continue
		}
		more := w
		x, row := r.Intn(b.Wide), r.Intn(b.Deep)
		more.Sights = append(slices.Clone(w.Sights), seen(r.Intn(w.Many), r.firstDay(8)+r.in(0, 7), r.near(x, b.Wide), r.near(row, b.Deep)))
		other := w
		other.Sights = mixed(r, w.Sights)
		for n := range w.Many {
			day := r.firstDay(8) + r.in(0, 7)
			x, rows, _ := whale.Reach(b, w, n, day)
			x2, rows2, e := whale.Reach(b, other, n, day)
			if x2 != x || rows2 != rows || e != api.OK {
				t.Fatalf("%v %v: in another order Reach is %v %v %d, not %v %v", b, w, x2, rows2, e, x, rows)
			}
			x3, rows3, e := whale.Reach(b, more, n, day)
			if e == api.OK && !(within(x3, x) && within(rows3, rows)) {
				t.Fatalf("%v %v: with a sight more Reach is %v %v, not within %v %v", b, more, x3, rows3, x, rows)
			}
		}
	}
}

// P6.2, P6.9, T7: shut is what is near a track, in as few spans as can be.
func TestShutTracks(t *testing.T) {
	r := newRandom()
	for range 600 {
		s := r.scene()
		guard, day := r.in(0, 3), s.first+r.Intn(s.length)
		near := map[api.Cell]bool{}
		for _, all := range s.tracks {
			for _, one := range all {
				for _, c := range cellsOf(s.b) {
					near[c] = near[c] || far(c, one[day-s.first]) <= guard
				}
			}
		}
		shut, e := whale.Shut(s.b, s.w, guard, day)
		if want := spansOf(s.b, near); e != api.OK || !slices.EqualFunc(shut, want, slices.Equal) {
			t.Fatalf("%v: Shut returns %v %d, not %v", s, shut, e, want)
		}
		list, _ := whale.Meet(s.b, s.w, s.f, s.l, day)
		for _, m := range list {
			spot, _ := ground.State(s.b, s.f, s.l, m.Tag, day)
			if !near[api.Cell{X: spot.X, Row: spot.Row}] {
				t.Fatalf("%v: %v is in a cell that is not shut", s, m)
			}
		}
	}
}

// spansOf returns the cells of each row as spans, cell by cell.
func spansOf(b api.Bay, cells map[api.Cell]bool) [][]api.Span {
	rows := make([][]api.Span, b.Deep)
	for row := range rows {
		for x := range b.Wide {
			switch {
			case !cells[api.Cell{X: x, Row: row}]:
			case x > 0 && cells[api.Cell{X: x - 1, Row: row}]:
				rows[row][len(rows[row])-1].Hi = x
			default:
				rows[row] = append(rows[row], one(x))
			}
		}
	}
	return rows
}

// P6.2: in larger bays with more whales.
func TestShutLarge(t *testing.T) {
	r := newRandom()
	for range 300 {
		b := r.bay(60, 20)
		w := r.whales(b, 6, 100, 3)
		guard, day := r.in(0, 6), r.in(98, 104)
		near := map[api.Cell]bool{}
		for n := range w.Many {
			x, rows, e := whale.Reach(b, w, n, day)
			for _, c := range cellsOf(b) {
				there := api.Cell{X: min(max(c.X, x.Lo), x.Hi), Row: min(max(c.Row, rows.Lo), rows.Hi)}
				near[c] = near[c] || e == api.OK && far(c, there) <= guard
			}
		}
		shut, e := whale.Shut(b, w, guard, day)
		if want := spansOf(b, near); e == api.OK && !slices.EqualFunc(shut, want, slices.Equal) {
			t.Fatalf("%v %v: Shut returns %v, not %v", b, w, shut, want)
		}
	}
}

// T7: the cells of a gang in a row hang together, and follow those of the gang before it; a trap that is not in a shut cell is met by no whale.
func TestNoWhaleInTheOpen(t *testing.T) {
	r := newRandom()
	for range 300 {
		s := r.scene()
		day := s.first + r.Intn(s.length)
		for row := range s.b.Deep {
			last := 0
			for x := range s.b.Wide {
				gang, e := ground.Holder(s.b, day, x, row)
				if e != api.OK || gang < last {
					t.Fatalf("%v: the cell %d %d is of the gang %d, behind one of %d", s.b, x, row, gang, last)
				}
				last = gang
			}
		}
		shut, _ := whale.Shut(s.b, s.w, r.in(0, 2), day)
		for tag := range s.f.Tags {
			spot, _ := ground.State(s.b, s.f, s.l, tag, day)
			if spot.State != api.TrapOut || slices.ContainsFunc(shut[spot.Row], func(x api.Span) bool { return isIn(spot.X, x) }) {
				continue
			}
			for _, all := range s.tracks {
				for _, one := range all {
					if one[day-s.first] == (api.Cell{X: spot.X, Row: spot.Row}) {
						t.Fatalf("%v: the trap %d is met in the open", s, tag)
					}
				}
			}
		}
	}
}

// verdicts count in how many cases something is so.
type verdicts struct{ yes, all int }

func (v *verdicts) add(is bool) {
	v.all++
	if is {
		v.yes++
	}
}

func (v verdicts) verdict() int {
	switch v.yes {
	case 0:
		return api.Never
	case v.all:
		return api.Sure
	}
	return api.Open
}

// truly goes through all pulls at which a rope may truly part, and says each time whether it holds at a pull.
func truly(r api.Rope, pull int) []bool {
	switch r.Kind {
	case api.RopeStrong:
		return []bool{true}
	case api.RopeNone:
		return []bool{false}
	}
	var holds []bool
	for n := r.Part.Lo; n <= r.Part.Hi; n++ {
		holds = append(holds, pull < n)
	}
	return holds
}

// meetings returns all meetings of a day, and those with ropes that hold, word by word: whatever the track and the rope truly are.
func (s scene) meetings(pull, day int) (met, danger []api.Meeting) {
	for n, all := range s.tracks {
		for tag, rope := range s.ropes {
			var any, held verdicts
			spot, _ := ground.State(s.b, s.f, s.l, tag, day)
			for _, one := range all {
				is := spot.State == api.TrapOut && one[day-s.first] == api.Cell{X: spot.X, Row: spot.Row}
				any.add(is)
				for _, holds := range truly(rope, pull) {
					held.add(is && holds)
				}
			}
			if v := any.verdict(); v != api.Never {
				met = append(met, api.Meeting{Whale: n, Tag: tag, Verdict: v})
			}
			if v := held.verdict(); v != api.Never {
				danger = append(danger, api.Meeting{Whale: n, Tag: tag, Verdict: v})
			}
		}
	}
	return met, danger
}

// P6.3, P6.4, P6.10: meetings and dangers, whatever the tracks are, and however ropes truly part.
func TestMeetings(t *testing.T) {
	r := newRandom()
	said := map[[2]int]int{}
	for range 1500 {
		s := r.scene()
		pull, day := r.in(1, 4), s.first+r.Intn(s.length)
		met, danger := s.meetings(pull, day)
		if list, e := whale.Meet(s.b, s.w, s.f, s.l, day); e != api.OK || !slices.Equal(list, met) {
			t.Fatalf("%v: Meet returns %v %d, not %v", s, list, e, met)
		}
		if list, e := whale.Danger(s.b, s.w, s.f, s.l, s.ropes, pull, day); e != api.OK || !slices.Equal(list, danger) {
			t.Fatalf("%v: Danger returns %v %d, not %v", s, list, e, danger)
		}
		for _, m := range met {
			said[[2]int{0, m.Verdict}]++
		}
		for _, m := range danger {
			said[[2]int{1, m.Verdict}]++
		}
	}
	for _, key := range [][2]int{{0, sure}, {0, open}, {1, sure}, {1, open}} {
		if said[key] < 50 {
			t.Error(said)
		}
	}
}

// P6.4, P6.11: the first day of danger of each trap; if each one is hauled before, or not set any more, there is no danger in all of these days.
func TestHauledInTime(t *testing.T) {
	r := newRandom()
	found := 0
	for range 800 {
		s := r.scene()
		pull, watched := r.in(1, 4), r.span(s.days().Lo, s.days().Hi)
		var want []api.Call
		for tag := range s.f.Tags {
			for day := watched.Lo; day <= watched.Hi; day++ {
				_, danger := s.meetings(pull, day)
				if slices.ContainsFunc(danger, func(m api.Meeting) bool { return m.Tag == tag }) {
					want = append(want, api.Call{Tag: tag, Day: day})
					break
				}
			}
		}
		calls, e := whale.Haul(s.b, s.w, s.f, s.l, s.ropes, pull, watched.Lo, watched.Hi)
		if e != api.OK || !slices.Equal(calls, want) {
			t.Fatalf("%v: Haul returns %v %d, not %v", s, calls, e, want)
		}
		for _, c := range calls {
			found++
			s.l = slices.DeleteFunc(s.l, func(one api.Report) bool { return one.Tag == c.Tag && one.Day >= c.Day-1 })
			if c.Day > 0 {
				s.l = append(s.l, said(api.ReportHaul, c.Tag, c.Day-1))
			}
		}
		for day := watched.Lo; day <= watched.Hi; day++ {
			if list, e := whale.Danger(s.b, s.w, s.f, s.l, s.ropes, pull, day); e != api.OK || len(list) != 0 {
				t.Fatalf("%v: after all are hauled Danger returns %v %d", s, list, e)
			}
		}
		if left, e := whale.Haul(s.b, s.w, s.f, s.l, s.ropes, pull, watched.Lo, watched.Hi); e != api.OK || len(left) != 0 {
			t.Fatalf("%v: after all are hauled Haul returns %v %d", s, left, e)
		}
	}
	if found < 200 {
		t.Error("only", found, "calls")
	}
}

// P6.14: with ropes that part at less, and with a greater pull, nothing is in danger that was not.
func TestWeaker(t *testing.T) {
	r := newRandom()
	pairs := func(list []api.Meeting) map[[2]int]bool {
		all := map[[2]int]bool{}
		for _, m := range list {
			all[[2]int{m.Whale, m.Tag}] = true
		}
		return all
	}
	for range 1500 {
		s := r.scene()
		pull, day := r.in(1, 4), s.first+r.Intn(s.length)
		before, _ := whale.Danger(s.b, s.w, s.f, s.l, s.ropes, pull, day)
		weaker := slices.Clone(s.ropes)
		for i, rope := range weaker {
			if rope.Kind == api.RopeWeak {
				weaker[i].Part = span(r.in(1, rope.Part.Lo), r.in(rope.Part.Lo, rope.Part.Hi))
			} else if rope.Kind == api.RopeStrong && r.yes() {
				weaker[i].Kind, weaker[i].Part = api.RopeWeak, r.span(1, 5000)
			}
		}
		for _, c := range []struct {
			ropes []api.Rope
			pull  int
		}{{weaker, pull}, {s.ropes, pull + r.in(0, 3)}} {
			after, e := whale.Danger(s.b, s.w, s.f, s.l, c.ropes, c.pull, day)
			for pair := range pairs(after) {
				if e != api.OK || !pairs(before)[pair] {
					t.Fatalf("%v: with %v at %d %v is in danger, before it was %v", s, c.ropes, c.pull, pair, before)
				}
			}
		}
	}
}

// trueCodes goes through all lists of so many codes, in lexicographic order, and returns the first one without a clash.
func trueCodes(cells []api.Cell, hear, many int) ([]int, bool) {
	codes := make([]int, len(cells))
	for {
		clash := false
		for i := range cells {
			for j := range i {
				clash = clash || codes[i] == codes[j] && far(cells[i], cells[j]) <= hear
			}
		}
		if !clash {
			return codes, true
		}
		last := len(codes) - 1
		for last >= 0 && codes[last] == many-1 {
			codes[last] = 0
			last--
		}
		if last < 0 {
			return nil, false
		}
		codes[last]++
	}
}

// P6.5, P6.12: no two that hear one call have the same code, and fewer codes are not enough: all lists are gone through.
func TestAllCodes(t *testing.T) {
	r := newRandom()
	used := map[int]int{}
	for range 1000 {
		b := r.bay(8, 4)
		cells, hear := r.cells(b, 7), r.in(0, 4)
		var want []int
		for many := 1; len(cells) > 0; many++ {
			if first, ok := trueCodes(cells, hear, many); ok {
				want = first
				used[many]++
				break
			}
		}
		if codes, e := whale.Codes(b, cells, hear); e != api.OK || !slices.Equal(codes, want) {
			t.Fatalf("%v, hear %d: Codes returns %v %d, not %v", cells, hear, codes, e, want)
		}
	}
	if len(used) < 6 {
		t.Error(used)
	}
}

// isPiece says whether a piece stands in a mark, read from either end.
func isPiece(piece, mark string) bool {
	return strings.Contains(mark, piece) || strings.Contains(mark, backwards(piece))
}

func backwards(s string) string {
	letters := []byte(s)
	slices.Reverse(letters)
	return string(letters)
}

// P6.6, P6.13: owners of a piece; a longer piece has no more of them, and one that is read from the other end has the same.
func TestAllOwners(t *testing.T) {
	r := newRandom()
	for range 3000 {
		marks, piece := r.marks(12, 6), r.mark(4)
		var want []int
		for i, mark := range marks {
			if isPiece(piece, mark) {
				want = append(want, i)
			}
		}
		for _, read := range []string{piece, backwards(piece)} {
			if list, e := whale.Owners(marks, read); e != api.OK || !slices.Equal(list, want) {
				t.Fatalf("%q %q: Owners returns %v %d, not %v", marks, read, list, e, want)
			}
		}
		longer, e := whale.Owners(marks, piece+r.mark(1))
		for _, owner := range longer {
			if e != api.OK || !slices.Contains(want, owner) {
				t.Fatalf("%q: a longer piece than %q has the owners %v, not only %v", marks, piece, longer, want)
			}
		}
	}
}

// P6.6, P6.13: a piece as long as Short says has one owner, which is whose mark it was cut from; a shorter one does not say it each time.
func TestAllShort(t *testing.T) {
	r := newRandom()
	lengths := map[int]int{}
	for range 6000 {
		marks := r.marks(4, 8)
		want, shortest := 0, 9
		for _, mark := range marks {
			shortest = min(shortest, len(mark))
		}
		for n := 1; n <= shortest && len(marks) > 0 && want == 0; n++ {
			if areOwn(marks, n) {
				want = n
			}
		}
		short, e := whale.Short(marks)
		if short != want || (e == api.OK) != (want > 0) || e != api.OK && e != api.ErrMissing {
			t.Fatalf("%q: Short returns %d %d, not %d", marks, short, e, want)
		}
		lengths[want]++
		for i, mark := range marks {
			for from := 0; short > 0 && from+short <= len(mark); from++ {
				if list, e := whale.Owners(marks, mark[from:from+short]); e != api.OK || !slices.Equal(list, []int{i}) {
					t.Fatalf("%q: a piece of %d letters of %q has the owners %v", marks, short, mark, list)
				}
			}
		}
	}
	if len(lengths) < 6 {
		t.Error(lengths)
	}
}

// areOwn says whether each piece of n letters of a mark is one of this mark alone.
func areOwn(marks []string, n int) bool {
	for i, mark := range marks {
		for from := 0; from+n <= len(mark); from++ {
			for j, other := range marks {
				if i != j && isPiece(mark[from:from+n], other) {
					return false
				}
			}
		}
	}
	return true
}
