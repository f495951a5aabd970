package trade_test

import (
	"slices"
	"testing"

	"homarus/api"
	"homarus/trade"
)

// taken returns the animals and the grams of the events of a kind with a grade.
func taken(l []api.Event, kind, grade int) [2]int {
	var sum [2]int
	for _, x := range l {
		if x.Kind == kind && x.Grade == grade {
			sum[0], sum[1] = sum[0]+x.Count, sum[1]+x.Grams
		}
	}
	return sum
}

// left returns the animals and the grams that are left of a grade.
func left(l []api.Event, grade int) [2]int {
	sum := taken(l, api.EventBuy, grade)
	for _, kind := range []int{api.EventDie, api.EventSell, api.EventBack, api.EventDrip} {
		away := taken(l, kind, grade)
		sum[0], sum[1] = sum[0]-away[0], sum[1]-away[1]
	}
	return sum
}

// trueError returns the first error of a ledger.
func trueError(grades int, l []api.Event) api.Errno {
	isOut := func(n int) bool { return n < 0 || n > 1000000 }
	if len(l) > 200 {
		return api.ErrFull
	}
	for i, x := range l {
		switch {
		case x.Kind < 1 || x.Kind > 5:
			return api.ErrKind
		case x.Grade < 0 || x.Grade >= grades:
			return api.ErrMissing
		case isOut(x.Count) || isOut(x.Grams):
			return api.ErrRange
		case (x.Count == 0) != (x.Kind == api.EventDrip):
			return api.ErrForm
		}
		before, after := left(l[:i], x.Grade), left(l[:i+1], x.Grade)
		switch {
		case x.Kind != api.EventBuy && (x.Count > before[0] || x.Grams > before[1]):
			return api.ErrShort
		case after[1] < after[0] || after[0] == 0 && after[1] != 0:
			return api.ErrClash
		}
	}
	return api.OK
}

// trueBook returns what became of each grade.
func trueBook(grades int, l []api.Event) []api.Balance {
	var list []api.Balance
	for i := range grades {
		list = append(list, api.Balance{
			Bought: taken(l, api.EventBuy, i), Died: taken(l, api.EventDie, i), Sold: taken(l, api.EventSell, i),
			Back: taken(l, api.EventBack, i), Left: left(l, i), Dripped: taken(l, api.EventDrip, i)[1],
		})
	}
	return list
}

// changedLedger returns a ledger with a number that is another one, or with events in another order, missing, or twice.
func (r random) changedLedger(l []api.Event) []api.Event {
	l = slices.Clone(l)
	if len(l) == 0 {
		return []api.Event{event(r.in(0, 6), r.in(-1, 3), r.in(-1, 2), r.in(-1, 2))}
	}
	i := r.Intn(len(l))
	numbers := []*int{&l[i].Kind, &l[i].Grade, &l[i].Count, &l[i].Grams}
	switch r.Intn(5) {
	case 0:
		*numbers[r.Intn(4)] = []int{-1, 0, 1, 2, 3, 4, 5, 6, 8, 100, 1000000, 1000001}[r.Intn(12)]
	case 1:
		*numbers[r.Intn(4)] += r.in(-2, 2)
	case 2:
		r.Shuffle(len(l), func(i, j int) { l[i], l[j] = l[j], l[i] })
	case 3:
		l = slices.Delete(l, i, i+1)
	case 4:
		l = slices.Insert(l, i, l[r.Intn(len(l))])
	}
	return l
}

// P8.3: ledgers, and their errors, word by word.
func TestBooksAreTrue(t *testing.T) {
	r := newRandom()
	seen := map[api.Errno]int{}
	for range 6000 {
		m := manyGrades(r.in(1, 3))
		l := r.ledger(len(m), r.in(0, 20), r.in(1, 4))
		if e := trueError(len(m), l); e != api.OK {
			t.Fatalf("the ledger %v has the error %d", l, e)
		}
		if r.Intn(3) > 0 {
			l = r.changedLedger(l)
		}
		want := trueError(len(m), l)
		seen[want]++
		balances, e := trade.Book(m, l)
		if e != want || e == api.OK && !slices.Equal(balances, trueBook(len(m), l)) || e != api.OK && len(balances) > 0 {
			t.Fatalf("Book(%v, %v) returns %v %d, not %d", m, l, balances, e, want)
		}
	}
	for _, e := range []api.Errno{api.OK, api.ErrKind, api.ErrMissing, api.ErrRange, api.ErrForm, api.ErrShort, api.ErrClash} {
		if seen[e] < 50 {
			t.Errorf("the error %d was found only %d times", e, seen[e])
		}
	}
}

// P8.10: all that was bought has a name; a ledger that is continued has nothing less.
func TestNoneIsLost(t *testing.T) {
	r := newRandom()
	for range 500 {
		m := manyGrades(r.in(1, 8))
		l := r.ledger(len(m), 200, r.in(1, 5000))
		before := make([]api.Balance, len(m))
		for i := range len(l) + 1 {
			balances, e := trade.Book(m, l[:i])
			if e != api.OK {
				t.Fatalf("Book(%v, %v) returns %d", m, l[:i], e)
			}
			for grade, b := range balances {
				animals := b.Died[0] + b.Sold[0] + b.Back[0] + b.Left[0]
				grams := b.Died[1] + b.Sold[1] + b.Back[1] + b.Left[1] + b.Dripped
				if b.Bought != [2]int{animals, grams} || min(b.Left[0], b.Left[1]) < 0 {
					t.Fatalf("Book(%v, %v) returns %v", m, l[:i], b)
				}
				old := before[grade]
				for j := range 2 {
					if b.Bought[j] < old.Bought[j] || b.Died[j] < old.Died[j] || b.Sold[j] < old.Sold[j] || b.Back[j] < old.Back[j] || b.Dripped < old.Dripped {
						t.Fatalf("Book(%v, %v) returns %v, with an event less %v", m, l[:i], b, old)
					}
				}
			}
			before = balances
		}
	}
}

// P8.11: what became of a grade depends on its own events alone, and not on their order.
func TestGradesApart(t *testing.T) {
	r := newRandom()
	moved := 0
	for range 3000 {
		m := manyGrades(r.in(2, 4))
		l := r.ledger(len(m), 12, r.in(1, 5))
		all, e := trade.Book(m, l)
		if e != api.OK {
			t.Fatalf("Book(%v, %v) returns %d", m, l, e)
		}
		grade := r.Intn(len(m))
		own := slices.DeleteFunc(slices.Clone(l), func(x api.Event) bool { return x.Grade != grade })
		if alone, e := trade.Book(m, own); e != api.OK || alone[grade] != all[grade] {
			t.Fatalf("Book(%v, %v) returns %v %d, of all events %v", m, own, alone, e, all[grade])
		}
		other := slices.Clone(l)
		r.Shuffle(len(l), func(i, j int) { other[i], other[j] = other[j], other[i] })
		again, e := trade.Book(m, other)
		if trueError(len(m), other) != api.OK {
			continue
		}
		if e != api.OK || !slices.Equal(again, all) {
			t.Fatalf("Book returns %v %d for %v, and %v for %v", again, e, other, all, l)
		}
		if !slices.Equal(l, other) {
			moved++
		}
	}
	if moved < 100 {
		t.Errorf("only %d ledgers were valid in another order", moved)
	}
}

// choices returns all choices of orders, as lists of their numbers.
func choices(orders int) [][]int {
	all := [][]int{nil}
	for i := range orders {
		for _, chosen := range all {
			all = append(all, append(slices.Clone(chosen), i))
		}
	}
	return all
}

// trueShip returns the first one of the best choices, and its sum.
func trueShip(l []api.Event, orders []api.Order, room int) (best []int, most int) {
	for _, chosen := range choices(len(orders)) {
		need, all, cents := map[int]int{}, 0, 0
		for _, i := range chosen {
			need[orders[i].Grade] += orders[i].Count
			all += orders[i].Count
			cents += orders[i].Cents
		}
		can := all <= room
		for grade, count := range need {
			can = can && count <= left(l, grade)[0]
		}
		isFirst := len(chosen) < len(best) || len(chosen) == len(best) && slices.Compare(chosen, best) < 0
		if can && (cents > most || cents == most && isFirst) {
			best, most = chosen, cents
		}
	}
	return best, most
}

// P8.4, P8.12: no choice is worth more, and none that is worth as much comes before; with more room, or more animals, none is worth less.
func TestShipped(t *testing.T) {
	r := newRandom()
	some, grown := 0, 0
	for range 1500 {
		m := manyGrades(r.in(1, 3))
		l, most := r.ledger(len(m), 12, 5), []int{2, 5, 10}[r.Intn(3)]
		orders, room := r.orders(len(m), []int{6, 10}[r.Intn(2)], most), r.in(0, 30)
		best, sum := trueShip(l, orders, room)
		chosen, cents, e := trade.Ship(m, l, orders, room)
		if !slices.Equal(chosen, best) || cents != sum || e != api.OK {
			t.Fatalf("Ship(%v, %v, %d) returns %v %d %d, not %v %d", l, orders, room, chosen, cents, e, best, sum)
		}
		if len(chosen) > 1 {
			some++
		}
		grade := r.Intn(len(m))
		_, a, _ := trade.Ship(m, l, orders, room+r.in(1, 5))
		_, b, _ := trade.Ship(m, append(slices.Clone(l), buy(grade, r.in(1, 3), 9)), orders, room)
		if a < cents || b < cents {
			t.Fatalf("Ship(%v, %v, %d) is worth %d, with more room %d, with more animals %d", l, orders, room, cents, a, b)
		}
		if a > cents || b > cents {
			grown++
		}
	}
	if some < 300 || grown < 100 {
		t.Errorf("%d choices of several orders, %d were worth more with more", some, grown)
	}
}

// dividend is what a boat offers for a box: its traps, divided by the number of boxes with this one.
type dividend struct{ traps, boxes, boat int }

// trueShares gives the boxes to the greatest of all that boats offer.
func trueShares(quota int, traps []int) []int {
	var all []dividend
	for boat, n := range traps {
		for i := range quota {
			all = append(all, dividend{n, i + 1, boat})
		}
	}
	slices.SortFunc(all, func(a, b dividend) int {
		if more := b.traps*a.boxes - a.traps*b.boxes; more != 0 {
			return more
		}
		return a.boat - b.boat
	})
	boxes := make([]int, len(traps))
	for _, d := range all[:quota] {
		boxes[d.boat]++
	}
	return boxes
}

// P8.5, P8.13: all boxes are given away, each one to the greatest part; with one box more nobody gets less; equal boats get the same, or the first ones one more; nobody without traps gets any.
func TestBait(t *testing.T) {
	r := newRandom()
	for range 1500 {
		traps, quota := r.traps(), []int{r.in(0, 12), r.in(0, 100), r.in(0, 4999)}[r.Intn(3)]
		boxes, e := trade.Share(quota, traps)
		more, f := trade.Share(quota+1, traps)
		if e != api.OK || f != api.OK || len(boxes) != len(traps) || len(more) != len(traps) {
			t.Fatalf("Share(%d, %v) returns %v %d, and with one more %v %d", quota, traps, boxes, e, more, f)
		}
		if quota <= 100 && !slices.Equal(boxes, trueShares(quota, traps)) {
			t.Fatalf("Share(%d, %v) returns %v, not %v", quota, traps, boxes, trueShares(quota, traps))
		}
		all := 0
		for i, count := range boxes {
			all += count
			if more[i] < count || traps[i] == 0 && count > 0 {
				t.Fatalf("Share(%d, %v) returns %v, and with one more %v", quota, traps, boxes, more)
			}
			for j := range i {
				if traps[i] == traps[j] && boxes[j] != count && boxes[j] != count+1 {
					t.Fatalf("Share(%d, %v) returns %v: the boats %d and %d are equal", quota, traps, boxes, j, i)
				}
			}
		}
		if all != quota {
			t.Fatalf("Share(%d, %v) returns %v, %d in all", quota, traps, boxes, all)
		}
	}
}

// P8.6, P8.15: what is written is read, and whatever is read is written as it was.
func TestPapers(t *testing.T) {
	r := newRandom()
	read := 0
	for range 4000 {
		m := manyGrades(r.in(1, 8))
		l := r.ledger(len(m), 12, r.in(1, 5000))
		text, e := trade.Write(m, l)
		if text != trueText(m, l) || e != api.OK {
			t.Fatalf("%v: Write returns %q %d", l, text, e)
		}
		again, row, e := trade.Read(m, text)
		if !slices.Equal(again, l) || row != 0 || e != api.OK {
			t.Fatalf("%q: Read returns %v %d %d", text, again, row, e)
		}
		changed := r.changedText(text)
		if again, row, e = trade.Read(m, changed); e == api.OK {
			read++
			if s, e := trade.Write(m, again); s != changed || row != 0 || e != api.OK {
				t.Fatalf("%q: is read as %v, and written as %q %d", changed, again, s, e)
			}
		}
	}
	if read < 300 {
		t.Errorf("only %d changed texts were read", read)
	}
}
