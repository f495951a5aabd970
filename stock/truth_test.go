package stock_test

import (
	"math/bits"
	"reflect"
	"slices"
	"testing"

	"homarus/api"
	"homarus/growth"
	"homarus/stock"
)

// The chapter's section Terms, followed word by word for all histories of small stocks, and held against what the package says.

// numberIn returns how many animals a history has in a year in the classes from one to another one.
func numberIn(history [][]int, year, from, to int) int {
	n := 0
	for c := from; c <= to; c++ {
		n += history[year][c]
	}
	return n
}

// signAllows says whether a sign allows a history.
func signAllows(sign api.Sign, history [][]int) bool {
	n := numberIn(history, sign.Year, sign.From, sign.To)
	switch sign.Kind {
	case count:
		return sign.Number.Lo <= n && n <= sign.Number.Hi
	case tags:
		return n >= sign.Number.Lo
	}
	down, up := n*sign.Part.Lo/api.Mil, n*sign.Part.Hi/api.Mil
	if n*sign.Part.Hi%api.Mil > 0 {
		up++
	}
	return down <= sign.Number.Lo && up >= sign.Number.Lo
}

// yearAllows says whether a year of a stock allows a history.
func yearAllows(s api.Stock, year int, history [][]int) bool {
	g := func(year, class int) int { return numberIn(history, year, class, s.Classes-1) }
	y := s.Years[year]
	now, next := g(year, 0), g(year+1, 0)
	if now < y.Dead.Lo || next > now+y.Young.Hi-y.Dead.Lo || next < now+y.Young.Lo-y.Dead.Hi || next-g(year+1, 1) < y.Young.Lo {
		return false
	}
	for c := 1; c < s.Classes; c++ {
		a := 0
		for a < s.Classes && y.Top[a] < c {
			a++
		}
		b := s.Classes
		for least := s.Classes - 1; least >= 0; least-- {
			all := true
			for class := least; class < s.Classes; class++ {
				all = all && y.Low[class] >= c
			}
			if all {
				b = least
			}
		}
		if n := g(year+1, c); n > g(year, a) || n > now-y.Dead.Lo || n < g(year, b)-y.Dead.Hi {
			return false
		}
	}
	return true
}

// yearsAllow says whether all years of a stock allow a history.
func yearsAllow(s api.Stock, history [][]int) bool {
	for year := range s.Years {
		if !yearAllows(s, year, history) {
			return false
		}
	}
	return true
}

// inSet says whether a history is in the set of a stock.
func inSet(s api.Stock, history [][]int) bool {
	return yearsAllow(s, history) && !slices.ContainsFunc(s.Signs, func(sign api.Sign) bool { return !signAllows(sign, history) })
}

// allRows returns all rows of numbers of so many classes that are together at most so many.
func allRows(classes, together int) [][]int {
	rows := [][]int{nil}
	for range classes {
		var longer [][]int
		for _, row := range rows {
			left := together
			for _, n := range row {
				left -= n
			}
			for n := range left + 1 {
				longer = append(longer, append(slices.Clone(row), n))
			}
		}
		rows = longer
	}
	return rows
}

// allHistories returns all histories of so many years and classes in which each row is together at most so many.
func allHistories(years, classes, together int) [][][]int {
	rows := allRows(classes, together)
	list := [][][]int{nil}
	for range years {
		var longer [][][]int
		for _, history := range list {
			for _, row := range rows {
				longer = append(longer, append(slices.Clone(history), row))
			}
		}
		list = longer
	}
	return list
}

// smallStock returns a stock in which there are at most so many animals in each year, as counts say. Its set may be empty.
func (r random) smallStock(classes, years, signs, together int) api.Stock {
	s := r.stock(classes, years, signs, together)
	if r.Intn(3) > 0 {
		for i := range s.Years {
			s.Years[i].Dead.Lo, s.Years[i].Young.Lo = min(s.Years[i].Dead.Lo, 1), min(s.Years[i].Young.Lo, 1)
		}
	}
	for year := range len(s.Years) + 1 {
		s.Signs = append(s.Signs, counted(year, 0, s.Classes-1, 0, together))
	}
	return s
}

// rangesOf returns the least and the greatest numbers of histories, by year, first and last class.
func rangesOf(s api.Stock, set [][][]int) map[[3]int]api.Span {
	ranges := map[[3]int]api.Span{}
	for n, history := range set {
		for year := range history {
			for from := range s.Classes {
				for to := from; to < s.Classes; to++ {
					key, number := [3]int{year, from, to}, numberIn(history, year, from, to)
					if n == 0 {
						ranges[key] = one(number)
					}
					ranges[key] = span(min(ranges[key].Lo, number), max(ranges[key].Hi, number))
				}
			}
		}
	}
	return ranges
}

// boundsIn returns the ranges of single classes as Bounds has to return them.
func boundsIn(s api.Stock, ranges map[[3]int]api.Span) [][]api.Span {
	var list [][]api.Span
	for year := range len(s.Years) + 1 {
		var row []api.Span
		for c := range s.Classes {
			row = append(row, ranges[[3]int{year, c, c}])
		}
		list = append(list, row)
	}
	return list
}

// histories keeps all small histories, by the numbers of years and classes.
type histories map[[2]int][][][]int

func (h histories) of(s api.Stock, together int) [][][]int {
	key := [2]int{len(s.Years) + 1, s.Classes}
	if h[key] == nil {
		h[key] = allHistories(key[0], key[1], together)
	}
	return h[key]
}

// setOf returns the histories of a list that are in the set of a stock.
func setOf(s api.Stock, list [][][]int) [][][]int {
	var set [][][]int
	for _, history := range list {
		if inSet(s, history) {
			set = append(set, history)
		}
	}
	return set
}

// P5.2, P5.3, P5.8, P0: for small stocks Allowed says of each history whether it is in the set, and ranges are the least and the greatest numbers of all histories; an empty set is known as such.
func TestAllSmallHistories(t *testing.T) {
	const together = 4
	r, h := newRandom(), histories{}
	empty := 0
	for n := range 1600 {
		// There are very many histories of two years and three classes.
		years, classes := 1+n%2, 3-n%2
		if n >= 1500 {
			years, classes = 2, 3
		}
		s := r.smallStock(classes, years, 4, together)
		list := h.of(s, together)
		set := setOf(s, list)
		for range 20 {
			history := list[r.Intn(len(list))]
			if len(set) > 0 && r.yes() {
				history = set[r.Intn(len(set))]
			}
			if ok, e := stock.Allowed(s, history); ok != inSet(s, history) || e != api.OK {
				t.Fatalf("Allowed(%v, %v) returns %t %d", s, history, ok, e)
			}
		}
		want := api.OK
		if len(set) == 0 {
			want = api.ErrClash
			empty++
		}
		ranges := rangesOf(s, set)
		for year := range len(s.Years) + 1 {
			for from := range s.Classes {
				for to := from; to < s.Classes; to++ {
					if x, e := stock.Range(s, year, from, to); x != ranges[[3]int{year, from, to}] || e != want {
						t.Fatalf("Range(%v, %d, %d to %d) returns %v %d, not %v", s, year, from, to, x, e, ranges[[3]int{year, from, to}])
					}
				}
			}
		}
		l, e := stock.Bounds(s)
		if e != want || e == api.OK && !reflect.DeepEqual(l, boundsIn(s, ranges)) || e != api.OK && len(l) > 0 {
			t.Fatalf("Bounds(%v) returns %v %d, not %v", s, l, e, boundsIn(s, ranges))
		}
	}
	if empty < 200 || empty > 1000 {
		t.Errorf("of 1600 sets %d are empty", empty)
	}
}

// P5.3, P5.8: signs are about sums, so that for large numbers ranges are as large: a stock and its signs, a million times as large, has ranges that are so, too, but for what rounding leaves.
func TestLargeNumbers(t *testing.T) {
	r := newRandom()
	for range 300 {
		s := r.stock(5, 4, 6, 50)
		s.Signs = slices.DeleteFunc(s.Signs, func(sign api.Sign) bool { return sign.Kind == survey })
		s.Signs = append(s.Signs, counted(0, 0, s.Classes-1, 0, 200))
		large := cloneStock(s)
		times := func(x *api.Span) { x.Lo, x.Hi = x.Lo*1000000, x.Hi*1000000 }
		for i := range large.Years {
			times(&large.Years[i].Dead)
			times(&large.Years[i].Young)
		}
		for i := range large.Signs {
			times(&large.Signs[i].Number)
		}
		small, e := stock.Bounds(s)
		l, f := stock.Bounds(large)
		if e != f {
			t.Fatalf("Bounds(%v) returns %d, but for numbers a million times as large %d", s, e, f)
		}
		for year, row := range small {
			for c, x := range row {
				times(&x)
				if l[year][c] != x {
					t.Fatalf("Bounds(%v) returns %v, but for numbers a million times as large %v", s, small, l)
				}
			}
		}
	}
}

// someTruth returns a stock with signs, and its history as it truly is, with few animals or with many.
func (r random) someTruth() (api.Stock, [][]int) {
	animals := []int{3, 20, 1000, 10000000}[r.Intn(4)]
	s, history := r.trueStock(8, 5, animals)
	for range r.in(0, 12) {
		s.Signs = append(s.Signs, r.trueSign(s, history))
	}
	return s, history
}

// P5.2, P5.3, P5.4, P5.7: however a true stock lives, and is seen, its history is in the set, and within Range and Bounds.
func TestTrueHistories(t *testing.T) {
	r := newRandom()
	for range 1500 {
		s, history := r.someTruth()
		if ok, e := stock.Allowed(s, history); !ok || e != api.OK || !inSet(s, history) {
			t.Fatalf("Allowed(%v, %v) returns %t %d", s, history, ok, e)
		}
		l, e := stock.Bounds(s)
		if e != api.OK {
			t.Fatalf("Bounds(%v) returns %d", s, e)
		}
		for year, row := range history {
			for c, n := range row {
				if n < l[year][c].Lo || n > l[year][c].Hi {
					t.Fatalf("Bounds(%v) returns %v, but there are %v", s, l, history)
				}
			}
			from, to := r.classes(s.Classes)
			n := numberIn(history, year, from, to)
			if x, e := stock.Range(s, year, from, to); n < x.Lo || n > x.Hi || e != api.OK {
				t.Fatalf("Range(%v, %d, %d to %d) returns %v %d, but there are %v", s, year, from, to, x, e, history)
			}
		}
		if l, e := stock.Conflict(s); len(l) > 0 || e != api.ErrMissing {
			t.Fatalf("Conflict(%v) returns %v %d", s, l, e)
		}
	}
}

// P5.9: with a sign more no range is wider.
func TestMoreSigns(t *testing.T) {
	r := newRandom()
	narrower := 0
	for range 1000 {
		s := r.stock(4, 3, 4, 10)
		before, e := stock.Bounds(s)
		more := cloneStock(s)
		more.Signs = append(more.Signs, r.sign(s, 10))
		after, f := stock.Bounds(more)
		if e != api.OK && f != e || f != api.OK && f != api.ErrClash {
			t.Fatalf("Bounds(%v) returns %d, with a sign more %d", s, e, f)
		}
		if f != api.OK {
			continue
		}
		if !reflect.DeepEqual(before, after) {
			narrower++
		}
		for year, row := range before {
			for c, x := range row {
				if y := after[year][c]; y.Lo < x.Lo || y.Hi > x.Hi {
					t.Fatalf("Bounds(%v) returns %v, with a sign more %v", s, before, after)
				}
			}
			from, to := r.classes(s.Classes)
			x, _ := stock.Range(s, year, from, to)
			if y, _ := stock.Range(more, year, from, to); y.Lo < x.Lo || y.Hi > x.Hi {
				t.Fatalf("Range(%v, %d, %d to %d) returns %v, with a sign more %v", s, year, from, to, x, y)
			}
		}
	}
	if narrower < 200 {
		t.Errorf("only %d times a range got narrower", narrower)
	}
}

// P5.9: with all numbers known each range is one number.
func TestAllNumbersKnown(t *testing.T) {
	r := newRandom()
	for range 500 {
		s, history := r.trueStock(4, 2, 1000)
		for year, row := range history {
			for c, n := range row {
				s.Signs = append(s.Signs, counted(year, c, c, n, n))
			}
		}
		for year := range history {
			from, to := r.classes(s.Classes)
			want := one(numberIn(history, year, from, to))
			if x, e := stock.Range(s, year, from, to); x != want || e != api.OK {
				t.Fatalf("Range(%v, %d, %d to %d) returns %v %d, not %v", s, year, from, to, x, e, want)
			}
		}
		l, e := stock.Bounds(s)
		for year, row := range history {
			for c, n := range row {
				if e != api.OK || l[year][c] != one(n) {
					t.Fatalf("Bounds(%v) returns %v %d, not %v", s, l, e, history)
				}
			}
		}
	}
}

// conflictOf returns the fewest signs, of several the first ones, with which alone no history of a list is left, and whether there are such signs. Of each history only those signs matter that do not allow it.
func conflictOf(s api.Stock, list [][][]int) (signs []int, some bool) {
	against := map[int]bool{}
	for _, history := range list {
		if !yearsAllow(s, history) {
			continue
		}
		set := 0
		for i, sign := range s.Signs {
			if !signAllows(sign, history) {
				set |= 1 << i
			}
		}
		against[set] = true
	}
	for set := range 1 << len(s.Signs) {
		empty := true
		for other := range against {
			empty = empty && set&other != 0
		}
		if !empty {
			continue
		}
		var numbers []int
		for i := range s.Signs {
			if set>>i&1 == 1 {
				numbers = append(numbers, i)
			}
		}
		if !some || len(numbers) < len(signs) || len(numbers) == len(signs) && slices.Compare(numbers, signs) < 0 {
			signs, some = numbers, true
		}
	}
	return signs, some
}

// P5.4, P5.10: of small stocks, the signs of Conflict leave no history, none of them can be missed, and no fewer ones do: all sets of signs are gone through.
func TestAllConflicts(t *testing.T) {
	// If there is a history, the least one has at most 3 animals more for each of 4 sums, as no bound is above 3.
	const together = 12
	r, h := newRandom(), histories{}
	found := map[int]int{}
	for range 1500 {
		s := api.Stock{Classes: r.in(1, 2), Years: make([]api.Year, r.in(0, 1))}
		for i := range s.Years {
			s.Years[i] = r.moves(s.Classes)
			s.Years[i].Dead, s.Years[i].Young = r.span(0, 3), r.span(0, 3)
		}
		for range r.in(0, 6) {
			sign := r.sign(s, 3)
			if sign.Kind == survey {
				sign.Part = span(500000, 1000000)
				sign.Number = one(r.in(0, 2))
			}
			s.Signs = append(s.Signs, sign)
		}
		want, some := conflictOf(s, h.of(s, together))
		l, e := stock.Conflict(s)
		if some != (e == api.OK) || !some && e != api.ErrMissing || !slices.Equal(l, want) {
			t.Fatalf("Conflict(%v) returns %v %d, not %v %t", s, l, e, want, some)
		}
		found[len(l)]++
	}
	if found[0] < 100 || found[1] < 20 || found[2] < 100 || found[3] < 20 {
		t.Errorf("only these conflicts were found, by their length: %v", found)
	}
}

// with returns a stock with some of its signs alone, given as bits.
func with(s api.Stock, set int) api.Stock {
	var signs []api.Sign
	for i, sign := range s.Signs {
		if set>>i&1 == 1 {
			signs = append(signs, sign)
		}
	}
	s.Signs = signs
	return s
}

// P5.10: the same for larger stocks, where Range says whether a set is empty.
func TestConflictsOfLargerStocks(t *testing.T) {
	r := newRandom()
	found := map[int]int{}
	for range 500 {
		s, history := r.trueStock(5, 3, 20)
		for range r.in(5, 7) {
			s.Signs = append(s.Signs, r.trueSign(s, history))
		}
		for range r.in(1, 3) {
			s.Signs[r.Intn(len(s.Signs))] = r.sign(s, 20)
		}
		var want []int
		some := false
		for set := range 1 << len(s.Signs) {
			if some && bits.OnesCount(uint(set)) > len(want) {
				continue
			}
			if _, e := stock.Range(with(s, set), 0, 0, 0); e != api.ErrClash {
				continue
			}
			var numbers []int
			for i := range s.Signs {
				if set>>i&1 == 1 {
					numbers = append(numbers, i)
				}
			}
			if !some || len(numbers) < len(want) || slices.Compare(numbers, want) < 0 {
				want, some = numbers, true
			}
		}
		l, e := stock.Conflict(s)
		if some != (e == api.OK) || !some && e != api.ErrMissing || !slices.Equal(l, want) {
			t.Fatalf("Conflict(%v) returns %v %d, not %v %t", s, l, e, want, some)
		}
		found[len(l)]++
	}
	if found[2] < 100 || found[3]+found[4] < 5 {
		t.Errorf("only these conflicts were found, by their length: %v", found)
	}
}

// P5.11: the range of some classes lies within the sum of the ranges of their parts, and is that sum if all other ones are known.
func TestSumsOfRanges(t *testing.T) {
	r := newRandom()
	exact := 0
	for range 1000 {
		s, history := r.trueStock(5, 3, 30)
		for range r.in(0, 4) {
			s.Signs = append(s.Signs, r.trueSign(s, history))
		}
		year := r.in(0, len(s.Years))
		from, to := r.classes(s.Classes)
		sum := func(s api.Stock, middle int) api.Span {
			a, e := stock.Range(s, year, from, middle)
			b, f := stock.Range(s, year, middle+1, to)
			if e != api.OK || f != api.OK {
				t.Fatalf("Range(%v) returns %d %d", s, e, f)
			}
			return span(a.Lo+b.Lo, a.Hi+b.Hi)
		}
		if from == to {
			continue
		}
		middle := r.in(from, to-1)
		if x, y := rangeOf(t, s, year, from, to), sum(s, middle); x.Lo < y.Lo || x.Hi > y.Hi {
			t.Fatalf("Range(%v, %d, %d to %d) returns %v, but the parts %v", s, year, from, to, x, y)
		}
		// One of the parts is known.
		known := cloneStock(s)
		first, last := from, middle
		if r.yes() {
			first, last = middle+1, to
		}
		n := numberIn(history, year, first, last)
		known.Signs = append(known.Signs, counted(year, first, last, n, n))
		if x, y := rangeOf(t, known, year, from, to), sum(known, middle); x != y {
			t.Fatalf("Range(%v, %d, %d to %d) returns %v, but the parts %v", known, year, from, to, x, y)
		} else if x.Lo < x.Hi {
			exact++
		}
	}
	if exact < 200 {
		t.Errorf("only %d sums were not one number", exact)
	}
}

// rangeOf returns a range, of which there has to be one.
func rangeOf(t *testing.T, s api.Stock, year, from, to int) api.Span {
	x, e := stock.Range(s, year, from, to)
	if e != api.OK {
		t.Fatalf("Range(%v, %d, %d to %d) returns %d", s, year, from, to, e)
	}
	return x
}

// trueQuota returns the quota of a rule for a number.
func trueQuota(r api.Rule, n int) int {
	if n <= r.Point {
		return 0
	}
	return min(r.Cap, (n-r.Point)*r.Part/api.Mil)
}

// isLeft says whether the point of a rule is kept, if so many of n animals are landed, and the part live of the others lives.
func isLeft(r api.Rule, n, landed, live int) bool { return (n-landed)*live/api.Mil >= r.Point }

// P5.5, P5.12, P5.13, P0: of small stocks, all numbers of a year, and all landings are gone through.
func TestRulesForAllNumbers(t *testing.T) {
	r := newRandom()
	verdicts, missing := map[int]int{}, 0
	for range 3000 {
		s, history := r.trueStock(4, 2, 15)
		for range r.in(1, 5) {
			s.Signs = append(s.Signs, r.trueSign(s, history))
		}
		year := r.in(0, len(s.Years))
		s.Signs = append(s.Signs, counted(year, 0, s.Classes-1, 0, 60))
		rule := r.rule(s, 20)
		numbers, e := stock.Range(s, year, rule.Class, s.Classes-1)
		if e == api.ErrClash {
			continue
		}
		verdict, least := api.Never, -1
		kept := 0
		for n := numbers.Hi; n >= numbers.Lo; n-- {
			q, e := stock.Quota(rule, n)
			if q != trueQuota(rule, n) || e != api.OK {
				t.Fatalf("Quota(%v, %d) returns %d %d", rule, n, q, e)
			}
			if isLeft(rule, n, q, rule.Live.Lo) {
				least = n
				kept++
			} else if kept > 0 {
				break
			}
		}
		switch {
		case kept == numbers.Hi-numbers.Lo+1:
			verdict = api.Sure
		case kept > 0:
			verdict = api.Open
		}
		for n := numbers.Lo; n < least; n++ {
			if isLeft(rule, n, trueQuota(rule, n), rule.Live.Lo) {
				t.Fatalf("%v is kept for %d, but not for a greater number", rule, n)
			}
		}
		if v, n, e := stock.Keep(s, rule, year); v != verdict || n != least || e != api.OK {
			t.Fatalf("Keep(%v, %v, %d) returns %d %d %d, not %d %d", s, rule, year, v, n, e, verdict, least)
		}
		verdicts[verdict]++
		if want, e := stock.Safe(s, rule, year); !isSafest(rule, numbers, want, e) {
			t.Fatalf("Safe(%v, %v, %d) returns %d %d for %v", s, rule, year, want, e, numbers)
		} else if e == api.ErrMissing {
			missing++
		}
	}
	if verdicts[api.Sure] < 200 || verdicts[api.Open] < 200 || verdicts[api.Never] < 200 || missing < 200 || missing > 2500 {
		t.Errorf("only these verdicts were found: %v, and %d times nothing was safe", verdicts, missing)
	}
}

// isSafest says whether what Safe returns is the greatest number that is safe for all numbers.
func isSafest(rule api.Rule, numbers api.Span, landed int, e api.Errno) bool {
	safest := -1
	for q := range numbers.Lo + 1 {
		safe := true
		for n := numbers.Lo; n <= numbers.Hi; n++ {
			safe = safe && isLeft(rule, n, q, rule.Live.Lo)
		}
		if safe {
			safest = q
		}
	}
	if safest < 0 {
		return e == api.ErrMissing && landed == 0
	}
	return e == api.OK && landed == safest
}

// T2, P5.7: where as many are landed as is safe, the rule's point is kept for the true number, and so it is where the rule is sure to keep it, however many of the others live.
func TestThePointIsKept(t *testing.T) {
	r := newRandom()
	sure, safe := 0, 0
	for range 3000 {
		s, history := r.someTruth()
		year := r.in(0, len(s.Years))
		rule := r.rule(s, 1)
		n := numberIn(history, year, rule.Class, s.Classes-1)
		rule.Point, rule.Cap = r.in(0, n), r.in(0, n)
		live := r.in(rule.Live.Lo, rule.Live.Hi)
		verdict, least, e := stock.Keep(s, rule, year)
		if e != api.OK {
			t.Fatalf("Keep(%v, %v, %d) returns %d", s, rule, year, e)
		}
		kept := isLeft(rule, n, trueQuota(rule, n), live)
		if verdict == api.Sure || verdict == api.Open && n >= least {
			sure++
			if !kept {
				t.Fatalf("Keep(%v, %v, %d) returns %d %d, but there are %v, of which too few are left", s, rule, year, verdict, least, history)
			}
		}
		if verdict == api.Never && isLeft(rule, n, trueQuota(rule, n), rule.Live.Lo) {
			t.Fatalf("Keep(%v, %v, %d) returns %d, but there are %v, of which enough are left", s, rule, year, verdict, history)
		}
		landed, e := stock.Safe(s, rule, year)
		if e == api.ErrMissing {
			continue
		}
		safe++
		for _, q := range []int{landed, r.in(0, landed), 0} {
			if e != api.OK || q > n || !isLeft(rule, n, q, live) {
				t.Fatalf("Safe(%v, %v, %d) returns %d %d, but there are %v, of which too few are left", s, rule, year, landed, e, history)
			}
		}
	}
	if sure < 500 || safe < 500 {
		t.Errorf("the point was surely kept only %d times, and safely %d times", sure, safe)
	}
}

// herdIn returns how many animals there are in each class of some sizes.
func herdIn(edges, sizes []int) []int {
	herd := make([]int, len(edges)-1)
	for _, size := range sizes {
		herd[classAfter(edges, size)]++
	}
	return herd
}

// grownSizes returns what becomes of animals that live: each one has a store and heat, and grows as it truly may.
func (r random) grownSizes(t *testing.T, g api.Growth, sizes []int, store, heat api.Span) []int {
	var after []int
	for _, size := range sizes {
		animal := api.Animal{Size: one(size), Heat: one(r.in(store.Lo, store.Hi))}
		list, e := growth.Reach(g, animal, one(r.in(heat.Lo, heat.Hi)))
		if e != api.OK {
			t.Fatalf("Reach returns %d", e)
		}
		s := list[r.Intn(len(list))].Size
		after = append(after, r.in(s.Lo, s.Hi))
	}
	return after
}

// survivors returns those of the sizes that live, of each class a number that may live by layer 1.
func (r random) survivors(edges, sizes []int, live api.Span) []int {
	var alive []int
	for c, n := range herdIn(edges, sizes) {
		down, up := n*live.Lo/api.Mil, (n*live.Hi+api.Mil-1)/api.Mil
		some := r.in(down, up)
		for _, size := range sizes {
			if some > 0 && classAfter(edges, size) == c {
				alive = append(alive, size)
				some--
			}
		}
	}
	return alive
}

// T1, P5.1, P5.14: however the animals of a herd truly live, die, grow and settle, their numbers are in the set of a stock whose moves are those of their growth, and within the numbers of the next year.
func TestTheTrueStock(t *testing.T) {
	r := newRandom()
	for range 1000 {
		g, edges := r.growth(), append(r.edges(), 60)
		store, heat, live := r.span(0, 8), r.span(0, 12), r.span(0, api.Mil)
		low, top, e := stock.Moves(g, edges, store, heat)
		if e != api.OK {
			t.Fatalf("Moves(%v, %v, %v, %v) returns %d", g, edges, store, heat, e)
		}
		var sizes []int
		for range r.in(0, 30) {
			sizes = append(sizes, r.in(edges[0], 59))
		}
		s, history := api.Stock{Classes: len(edges) - 1}, [][]int{herdIn(edges, sizes)}
		for range r.in(1, 3) {
			before := len(sizes)
			alive := r.survivors(edges, sizes, live)
			grown := r.grownSizes(t, g, alive, store, heat)
			herd := history[len(history)-1]
			var spans []api.Span
			for _, n := range herd {
				spans = append(spans, one(n))
			}
			next, e := growth.Next(g, edges, spans, store, heat, live)
			after := herdIn(edges, grown)
			// Who grows out of the last class counts as one of it.
			next[len(after)-1] = span(next[len(after)-1].Lo, next[len(after)-1].Hi+next[len(after)].Hi)
			for c, n := range after {
				if e != api.OK || n < next[c].Lo || n > next[c].Hi {
					t.Fatalf("of %v there are %v, but Next returns %v %d", herd, after, next, e)
				}
			}
			nursery := api.Nursery{High: 10, Rate: r.in(0, api.Mil), Room: 10}
			larvae := r.span(0, 30)
			settled, e := growth.Settle(nursery, []api.Span{one(5)}, []api.Span{larvae})
			if e != api.OK {
				t.Fatalf("Settle returns %d", e)
			}
			young := r.in(settled.Lo, settled.Hi)
			sizes = append(grown, slices.Repeat(edges[:1], young)...)
			after[0] += young
			s.Years = append(s.Years, api.Year{Low: low, Top: top, Dead: r.around(before-len(alive), 3), Young: settled})
			history = append(history, after)
		}
		for range r.in(0, 6) {
			s.Signs = append(s.Signs, r.trueSign(s, history))
		}
		if ok, e := stock.Allowed(s, history); !ok || e != api.OK {
			t.Fatalf("Allowed(%v, %v) returns %t %d", s, history, ok, e)
		}
		l, e := stock.Bounds(s)
		for year, row := range history {
			for c, n := range row {
				if e != api.OK || n < l[year][c].Lo || n > l[year][c].Hi {
					t.Fatalf("Bounds(%v) returns %v %d, but there are %v", s, l, e, history)
				}
			}
		}
	}
}
