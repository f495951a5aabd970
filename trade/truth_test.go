package trade_test

import (
	"slices"
	"testing"

	"homarus/api"
	"homarus/catch"
	"homarus/trade"
)

// The chapter's section Terms, followed word by word for all that animals may truly be, and held against what the package says.

// truth is what an animal on a scale truly is.
type truth struct {
	grams int
	weak  bool
}

// maybe returns what may be so by a verdict.
func maybe(verdict int) []bool {
	return map[int][]bool{y: {true}, n: {false}, o: {false, true}}[verdict]
}

// truths returns all that an animal on a scale may truly be.
func truths(x api.Scaled) []truth {
	var list []truth
	for _, weak := range maybe(x.Weak) {
		for grams := x.Grams.Lo; grams <= x.Grams.Hi; grams++ {
			list = append(list, truth{grams, weak})
		}
	}
	return list
}

// refused stands for the grade of an animal that no grade takes.
const refused = -1

// trueGrade returns the grade of what an animal truly is.
func trueGrade(m []api.Grade, x api.Scaled, t truth) int {
	for i, g := range m {
		isSoft := x.Animal.Shell == api.ShellSoft
		if g.Low <= t.grams && t.grams <= g.High && !(isSoft && !g.Soft) && !(t.weak && !g.Weak) {
			return i
		}
	}
	return refused
}

// truePay returns what is paid for what an animal truly is.
func truePay(m []api.Grade, x api.Scaled, t truth) int {
	grade := trueGrade(m, x, t)
	if grade == refused {
		return 0
	}
	thousandths := t.grams * m[grade].Price
	return (thousandths - thousandths%1000) / 1000
}

// verdictOf returns the verdict on what is so in some truths, and not so in others.
func verdictOf(so []bool) int {
	switch {
	case !slices.Contains(so, false):
		return y
	case !slices.Contains(so, true):
		return n
	}
	return o
}

// ends returns the least and the greatest of some numbers.
func ends(list []int) api.Span { return span(slices.Min(list), slices.Max(list)) }

func isIn(n int, s api.Span) bool { return s.Lo <= n && n <= s.Hi }

func isWithin(a, b api.Span) bool { return b.Lo <= a.Lo && a.Hi <= b.Hi }

// P8.1, P8.7, P0: verdicts and pay are what all truths together say.
func TestGradesAreTrue(t *testing.T) {
	r := newRandom()
	var found [2][4]int
	for range 6000 {
		most := []int{12, 12, 20000}[r.Intn(3)]
		m, x := r.market(most), r.scaled(most, min(most, 200))
		so, pays := make([][]bool, len(m)+1), []int{}
		for _, truly := range truths(x) {
			for i := range so {
				grade := trueGrade(m, x, truly)
				so[i] = append(so[i], grade == i || grade == refused && i == len(m))
			}
			pays = append(pays, truePay(m, x, truly))
		}
		var want []int
		for i := range so {
			want = append(want, verdictOf(so[i]))
			found[i/len(m)][want[i]]++
		}
		grades, not, e := trade.Grades(m, x)
		if !slices.Equal(append(grades, not), want) || len(grades) != len(m) || e != api.OK {
			t.Fatalf("Grades(%v, %v) returns %v %d %d, not %v", m, x, grades, not, e, want)
		}
		if pay, e := trade.Pay(m, x); pay != ends(pays) || e != api.OK {
			t.Fatalf("Pay(%v, %v) returns %v %d, not %v", m, x, pay, e, ends(pays))
		}
	}
	for i, verdicts := range found {
		if slices.Min(verdicts[y:]) < 300 {
			t.Errorf("verdicts on %d: %v", i, verdicts[y:])
		}
	}
}

// bill is what a slip truly comes to: by grades the animals, the grams and the cents, how many are refused, and the cents of all.
type bill struct {
	lines          [8][3]int
	refused, cents int
}

// with returns the bill with an animal more.
func (b bill) with(m []api.Grade, x api.Scaled, t truth) bill {
	pay := truePay(m, x, t)
	if grade := trueGrade(m, x, t); grade == refused {
		b.refused++
	} else {
		b.lines[grade][0]++
		b.lines[grade][1] += t.grams
		b.lines[grade][2] += pay
	}
	b.cents += pay
	return b
}

// bills returns what a slip may truly come to, for all truths of all animals.
func bills(m []api.Grade, l []api.Scaled) []bill {
	all := []bill{{}}
	for _, x := range l {
		var longer []bill
		for _, b := range all {
			for _, truly := range truths(x) {
				longer = append(longer, b.with(m, x, truly))
			}
		}
		all = longer
	}
	return all
}

// endsOf returns the ends of what is said of all bills.
func endsOf(all []bill, of func(b bill) int) api.Span {
	var list []int
	for _, b := range all {
		list = append(list, of(b))
	}
	return ends(list)
}

// slipOf returns the ends of all bills.
func slipOf(grades int, all []bill) slipResult {
	s := slipResult{refused: endsOf(all, func(b bill) int { return b.refused }), cents: endsOf(all, func(b bill) int { return b.cents })}
	for i := range grades {
		s.lines = append(s.lines, api.Line{
			Count: endsOf(all, func(b bill) int { return b.lines[i][0] }),
			Grams: endsOf(all, func(b bill) int { return b.lines[i][1] }),
			Cents: endsOf(all, func(b bill) int { return b.lines[i][2] }),
		})
	}
	return s
}

// everything is a gauge by which each animal may be kept.
func everything() api.Gauge { return api.Gauge{High: 2500} }

// P8.2, P8.8, P0: for few animals all that a slip may truly come to is between its ends, which are reached.
func TestSlipsAreTrueAndReached(t *testing.T) {
	r := newRandom()
	for range 1500 {
		m, l := r.market(12), r.list(3, 12, 3)
		want := slipOf(len(m), bills(m, l))
		lines, not, cents, e := trade.Slip(m, everything(), l)
		if got := (slipResult{lines, not, cents}); !got.equals(want) || e != api.OK {
			t.Fatalf("Slip(%v, %v) returns %v %d, not %v", m, l, got, e, want)
		}
	}
}

// holds says whether a bill lies within a slip.
func (s slipResult) holds(b bill) bool {
	for i, line := range s.lines {
		if !isIn(b.lines[i][0], line.Count) || !isIn(b.lines[i][1], line.Grams) || !isIn(b.lines[i][2], line.Cents) {
			return false
		}
	}
	return isIn(b.refused, s.refused) && isIn(b.cents, s.cents)
}

// sum returns what two slips come to together.
func (s slipResult) sum(other slipResult) slipResult {
	add := func(a, b api.Span) api.Span { return span(a.Lo+b.Lo, a.Hi+b.Hi) }
	sum := slipResult{refused: add(s.refused, other.refused), cents: add(s.cents, other.cents)}
	for i, line := range other.lines {
		sum.lines = append(sum.lines, api.Line{Count: add(s.lines[i].Count, line.Count), Grams: add(s.lines[i].Grams, line.Grams), Cents: add(s.lines[i].Cents, line.Cents)})
	}
	return sum
}

// P8.2, P8.8: all bills of many large animals are within the slip, whose ends are those of all animals, one by one.
func TestLongSlips(t *testing.T) {
	r := newRandom()
	for range 30 {
		m, l := r.market(20000), r.list(60, 20000, 200)
		lines, not, cents, e := trade.Slip(m, everything(), l)
		got := slipResult{lines, not, cents}
		if e != api.OK {
			t.Fatalf("Slip(%v, %v) returns %d", m, l, e)
		}
		want := slipResult{lines: make([]api.Line, len(m))}
		for _, x := range l {
			want = want.sum(slipOf(len(m), bills(m, []api.Scaled{x})))
		}
		if !got.equals(want) {
			t.Fatalf("Slip(%v, %v) returns %v, not %v", m, l, got, want)
		}
		for range 20 {
			var b bill
			for _, x := range l {
				all := truths(x)
				b = b.with(m, x, all[r.Intn(len(all))])
			}
			if !got.holds(b) {
				t.Fatalf("Slip(%v, %v) returns %v, but it is %v", m, l, got, b)
			}
		}
	}
}

// alwaysKept says whether an animal may be kept, whatever it truly is.
func alwaysKept(g api.Gauge, c api.Caught) bool {
	for size := c.Size.Lo; size <= c.Size.Hi; size++ {
		for _, eggs := range maybe(c.Eggs) {
			for _, notch := range maybe(c.Notch) {
				if size < g.Low || size > g.High || g.Eggs && eggs || g.Notch && notch || g.Soft && c.Shell == api.ShellSoft {
					return false
				}
			}
		}
	}
	return true
}

// P8.2, P8.9: an animal that has to go back in any truth is on no slip; all others can be.
func TestNeverSold(t *testing.T) {
	r := newRandom()
	sold, unsold := 0, 0
	for range 6000 {
		m, g, l := r.market(20), r.gauge(), r.list(4, 20, 3)
		want := api.OK
		if slices.ContainsFunc(l, func(x api.Scaled) bool { return !alwaysKept(g, x.Animal) }) {
			want = api.ErrClash
			unsold++
		} else if len(l) > 0 {
			sold++
		}
		if lines, _, _, e := trade.Slip(m, g, l); e != want || (e == api.OK) != (len(lines) == len(m)) {
			t.Fatalf("Slip(%v, %v, %v) returns %v %d, not %d", m, g, l, lines, e, want)
		}
	}
	if sold < 300 || unsold < 300 {
		t.Errorf("%d slips, and %d with animals that go back", sold, unsold)
	}
}

// P8.14: with weights that are more exact Sure and Never stay, and neither pay nor a slip is wider.
func TestBetterScales(t *testing.T) {
	r := newRandom()
	stays, decided := 0, 0
	for range 3000 {
		most := []int{12, 400}[r.Intn(2)]
		m, l := r.market(most), r.list(5, most, min(most, 200))
		exact := slices.Clone(l)
		for i := range exact {
			exact[i].Grams = r.narrow(l[i].Grams)
			old, oldRefused, _ := trade.Grades(m, l[i])
			now, nowRefused, _ := trade.Grades(m, exact[i])
			old, now = append(old, oldRefused), append(now, nowRefused)
			for j, verdict := range old {
				switch {
				case verdict != o && now[j] != verdict:
					t.Fatalf("%v: %v is %v, and %v is %v", m, l[i], old, exact[i], now)
				case verdict != o:
					stays++
				case now[j] != o:
					decided++
				}
			}
			a, _ := trade.Pay(m, exact[i])
			if b, _ := trade.Pay(m, l[i]); !isWithin(a, b) {
				t.Fatalf("%v: Pay is %v for %v, and %v for %v", m, b, l[i], a, exact[i])
			}
		}
		oldLines, oldRefused, oldCents, _ := trade.Slip(m, everything(), l)
		lines, refused, cents, _ := trade.Slip(m, everything(), exact)
		for i, line := range lines {
			if !isWithin(line.Count, oldLines[i].Count) || !isWithin(line.Grams, oldLines[i].Grams) || !isWithin(line.Cents, oldLines[i].Cents) {
				t.Fatalf("%v: the lines are %v for %v, and %v for %v", m, oldLines, l, lines, exact)
			}
		}
		if !isWithin(refused, oldRefused) || !isWithin(cents, oldCents) {
			t.Fatalf("%v: the sums are %v %v for %v, and %v %v for %v", m, oldRefused, oldCents, l, refused, cents, exact)
		}
	}
	if stays < 1000 || decided < 1000 {
		t.Errorf("%d verdicts stay, %d are decided", stays, decided)
	}
}

// trip returns a valid trip: what surely may be kept most often is, all else goes back, or dies.
func (r random) trip() api.Voyage {
	t := api.Voyage{Gauge: r.gauge()}
	for _, tag := range r.Perm(api.MaxTraps)[:r.in(0, 3)] {
		p := api.Pull{Tag: tag}
		for range r.in(0, 8) {
			c, fate := r.caught(), r.in(api.FateBack, api.FateDead)
			if alwaysKept(t.Gauge, c) && r.Intn(4) > 0 {
				fate = api.FateKept
			}
			p.Animals, p.Fates = append(p.Animals, c), append(p.Fates, fate)
		}
		t.Pulls = append(t.Pulls, p)
	}
	return t
}

// onScale returns animals on a scale.
func (r random) onScale(list []api.Caught) []api.Scaled {
	var l []api.Scaled
	for _, c := range list {
		x := r.scaled(20, 5)
		x.Animal = c
		l = append(l, x)
	}
	return l
}

// T5: what is kept on a trip can be on a slip, where each animal is of one grade, or refused, and no more is bought than was kept; what went back can be on one just if it surely may be kept.
func TestSold(t *testing.T) {
	r := newRandom()
	seen := map[api.Errno]int{}
	for range 1500 {
		trip, m := r.trip(), r.market(20)
		kept, gone, _, e := catch.Fates(trip)
		if e != api.OK {
			t.Fatalf("Fates(%v) returns %d", trip, e)
		}
		l := r.onScale(kept)
		lines, not, cents, e := trade.Slip(m, trip.Gauge, l)
		if e != api.OK {
			t.Fatalf("Slip(%v, %v, %v) returns %d", m, trip.Gauge, l, e)
		}
		var b bill
		for _, x := range l {
			checkOneGrade(t, m, x)
			all := truths(x)
			b = b.with(m, x, all[r.Intn(len(all))])
		}
		if !(slipResult{lines, not, cents}).holds(b) {
			t.Fatalf("Slip(%v, %v) returns %v %v %v, but it is %v", m, l, lines, not, cents, b)
		}
		checkBought(t, m, b, len(kept))
		for _, x := range r.onScale(gone) {
			want := api.OK
			if !alwaysKept(trip.Gauge, x.Animal) {
				want = api.ErrClash
			}
			seen[want]++
			if _, _, _, e := trade.Slip(m, trip.Gauge, []api.Scaled{x}); e != want {
				t.Fatalf("Slip(%v, %v, %v) returns %d, not %d", m, trip.Gauge, x, e, want)
			}
		}
	}
	if seen[api.OK] < 300 || seen[api.ErrClash] < 300 {
		t.Error("animals that went back:", seen)
	}
}

// checkOneGrade holds the verdicts on an animal against each other: it is of just one grade, or refused.
func checkOneGrade(t *testing.T, m []api.Grade, x api.Scaled) {
	t.Helper()
	grades, not, _ := trade.Grades(m, x)
	var many [4]int
	for _, verdict := range append(grades, not) {
		many[verdict]++
	}
	if many[y] > 1 || many[y] == 1 && many[o] > 0 || many[y] == 0 && many[o] < 2 {
		t.Fatalf("Grades(%v, %v) returns %v %d", m, x, grades, not)
	}
}

// checkBought buys what a bill says, and holds what is bought and refused against the number of animals that were kept.
func checkBought(t *testing.T, m []api.Grade, b bill, kept int) {
	t.Helper()
	var l []api.Event
	for grade := range m {
		if line := b.lines[grade]; line[0] > 0 {
			l = append(l, buy(grade, line[0], line[1]))
		}
	}
	balances, e := trade.Book(m, l)
	bought := 0
	for _, balance := range balances {
		bought += balance.Bought[0]
	}
	if e != api.OK || bought+b.refused != kept {
		t.Fatalf("Book(%v, %v) returns %v %d, but %d were kept", m, l, balances, e, kept)
	}
}
