package catch_test

import (
	"slices"
	"testing"

	"homarus/api"
	"homarus/catch"
)

// trulyOne says whether two animals can be one, as the section says: whether anything may be true of both.
func trulyOne(a, b api.Caught) bool {
	if a.Sex != b.Sex || a.Shell != b.Shell {
		return false
	}
	return slices.ContainsFunc(truths(a), func(t truth) bool { return slices.Contains(truths(b), t) })
}

// trueOnes says for each animal of dock, and each one of sea, whether they can be one.
func trueOnes(sea, dock []api.Caught) [][]bool {
	var ones [][]bool
	for _, landed := range dock {
		var row []bool
		for _, hauled := range sea {
			row = append(row, trulyOne(hauled, landed))
		}
		ones = append(ones, row)
	}
	return ones
}

// firstTruePairs returns the first pairs in lexicographic order of those that begin as given, nil if there are none.
func firstTruePairs(ones [][]bool, pairs []int) []int {
	if len(pairs) == len(ones) {
		return pairs
	}
	for mate, can := range ones[len(pairs)] {
		if can && !slices.Contains(pairs, mate) {
			if all := firstTruePairs(ones, append(slices.Clone(pairs), mate)); all != nil {
				return all
			}
		}
	}
	return nil
}

// proves says whether fewer animals of sea can be one with any of some of dock than these are.
func proves(ones [][]bool, proof []int) bool {
	mates := map[int]bool{}
	for _, i := range proof {
		for mate, can := range ones[i] {
			if can {
				mates[mate] = true
			}
		}
	}
	return len(mates) < len(proof)
}

// choices returns all lists of so many of the numbers from some number on, ascending, in lexicographic order.
func choices(from, below, many int) [][]int {
	if many == 0 {
		return [][]int{nil}
	}
	var all [][]int
	for i := from; i < below; i++ {
		for _, rest := range choices(i+1, below, many-1) {
			all = append(all, append([]int{i}, rest...))
		}
	}
	return all
}

// firstTrueProof returns the first one of the smallest proofs, nil if there is none.
func firstTrueProof(ones [][]bool) []int {
	for many := 1; many <= len(ones); many++ {
		for _, list := range choices(0, len(ones), many) {
			if proves(ones, list) {
				return list
			}
		}
	}
	return nil
}

// crowd returns animals that are often alike.
func (r random) crowd(many, most, far int) []api.Caught {
	var l []api.Caught
	for range many {
		c := r.caught(most, far)
		c.Shell = api.ShellHard
		if r.Intn(4) > 0 {
			c.Sex, c.Eggs, c.Notch = api.Female, o, r.in(1, 2)
		}
		l = append(l, c)
	}
	return l
}

// P4.4, P4.11, P0: pairs are the first ones of all; where there are none, the proof is the first one of the smallest of all.
func TestHonestIsTrue(t *testing.T) {
	r := newRandom()
	paired, proved := map[int]int{}, map[int]int{}
	for range 6000 {
		many := r.in(1, 6)
		sea, dock := r.crowd(many, 9, 9), r.crowd(many, 9, 9)
		ones := trueOnes(sea, dock)
		want, wantProof := firstTruePairs(ones, nil), firstTrueProof(ones)
		verdict, pairs, proof, e := catch.Honest(sea, dock)
		if e != api.OK || (verdict == o) != (want != nil) || (verdict == n) != (wantProof != nil) || !slices.Equal(pairs, want) || !slices.Equal(proof, wantProof) {
			t.Fatalf("Honest(%v, %v) returns %d %v %v %d, not %v %v", sea, dock, verdict, pairs, proof, e, want, wantProof)
		}
		paired[len(pairs)]++
		proved[len(proof)]++
	}
	for many := 1; many <= 4; many++ {
		if paired[many] < 50 || proved[many] < 50 {
			t.Errorf("only %d lists of %d had pairs, and %d proofs were so long", paired[many], many, proved[many])
		}
	}
}

// P4.4, P4.11: the same with as many animals as there may be.
func TestHonestOfTwelve(t *testing.T) {
	r := newRandom()
	found := map[int]int{}
	for range 60 {
		sea, dock := r.crowd(12, 12, 7), r.crowd(12, 12, 7)
		if r.yes() {
			for i := range sea {
				sea[i].Sex, dock[i].Sex, sea[i].Eggs, dock[i].Eggs, sea[i].Notch, dock[i].Notch = api.Female, api.Female, o, o, o, n
			}
		}
		ones := trueOnes(sea, dock)
		verdict, pairs, proof, e := catch.Honest(sea, dock)
		if want := firstTrueProof(ones); e != api.OK || (verdict == n) != (want != nil) || !slices.Equal(proof, want) || (verdict == o) != (len(pairs) == 12) {
			t.Fatalf("Honest(%v, %v) returns %d %v %v %d, not %v", sea, dock, verdict, pairs, proof, e, want)
		}
		if verdict == o && !areFirst(ones, pairs) {
			t.Fatalf("Honest(%v, %v) returns the pairs %v", sea, dock, pairs)
		}
		found[verdict]++
	}
	if found[o] < 10 || found[n] < 10 {
		t.Errorf("only %d had pairs, and %d a proof", found[o], found[n])
	}
}

// areFirst says whether pairs are the first ones in lexicographic order: with each mate that comes before another one there is a proof that the rest has no pairs.
func areFirst(ones [][]bool, pairs []int) bool {
	for i, mate := range pairs {
		if !ones[i][mate] || slices.Contains(pairs[:i], mate) {
			return false
		}
		for earlier := range mate {
			if !ones[i][earlier] || slices.Contains(pairs[:i], earlier) {
				continue
			}
			var rest [][]bool
			for _, row := range ones[i+1:] {
				row = slices.Clone(row)
				for _, taken := range append(pairs[:i:i], earlier) {
					row[taken] = false
				}
				rest = append(rest, row)
			}
			if firstTrueProof(rest) == nil {
				return false
			}
		}
	}
	return true
}

// measured returns an animal as it may be measured, if it truly is like a measure that is exact.
func (r random) measured(c api.Caught) api.Caught {
	c.Size = span(max(c.Size.Lo-r.in(0, 6), 0), c.Size.Hi+r.in(0, 6))
	if c.Sex == api.Female && r.yes() {
		c.Eggs = o
	}
	if c.Sex == api.Female && r.yes() {
		c.Notch = o
	}
	return c
}

// exact returns an animal of which everything is known.
func (r random) exact(most int) api.Caught {
	c := r.caught(most, 0)
	if c.Sex == api.Female {
		c.Eggs, c.Notch = r.in(y, n), r.in(y, n)
	}
	return c
}

// P4.10: what is landed as it was caught is never called dishonest, whatever both measures say within what is true.
func TestHonestIsNotBlamed(t *testing.T) {
	r := newRandom()
	for range 3000 {
		var sea, dock []api.Caught
		for range r.in(0, 12) {
			c := r.exact(40)
			sea, dock = append(sea, r.measured(c)), append(dock, r.measured(c))
		}
		r.Shuffle(len(dock), func(i, j int) { dock[i], dock[j] = dock[j], dock[i] })
		verdict, pairs, proof, e := catch.Honest(sea, dock)
		if verdict != o || len(pairs) != len(dock) || len(proof) > 0 || e != api.OK {
			t.Fatalf("Honest(%v, %v) returns %d %v %v %d", sea, dock, verdict, pairs, proof, e)
		}
		for i, mate := range pairs {
			if slices.Index(pairs, mate) != i || !trulyOne(sea[mate], dock[i]) {
				t.Fatalf("Honest(%v, %v) returns the pairs %v", sea, dock, pairs)
			}
		}
	}
}

// sharper returns an animal with a measure that is more exact, or as exact.
func (r random) sharper(c api.Caught) api.Caught {
	c.Size = r.span(c.Size.Lo, c.Size.Hi)
	if c.Eggs == o {
		c.Eggs = r.in(y, o)
	}
	if c.Notch == o {
		c.Notch = r.in(y, o)
	}
	return c
}

func (r random) allSharper(l []api.Caught) []api.Caught {
	var sharp []api.Caught
	for _, c := range l {
		sharp = append(sharp, r.sharper(c))
	}
	return sharp
}

// P4.12: with measures that are more exact no verdict that is Sure or Never changes, and what was dishonest stays so.
func TestBetterMeasures(t *testing.T) {
	r := newRandom()
	decided, still := 0, 0
	for range 8000 {
		g, c := r.gauge(12), r.caught(12, 8)
		sharp := r.sharper(c)
		before, e := catch.Reasons(g, c)
		after, f := catch.Reasons(g, sharp)
		keep, _ := catch.Keep(g, c)
		kept, _ := catch.Keep(g, sharp)
		if e != api.OK || f != api.OK {
			t.Fatalf("Reasons returns %d %d", e, f)
		}
		before, after = append(before, keep), append(after, kept)
		for i, verdict := range before {
			if verdict != o && after[i] != verdict {
				t.Fatalf("by %v the verdicts on %v are %v, but on %v %v", g, c, before, sharp, after)
			}
			if verdict == o && after[i] != o {
				decided++
			}
		}
		many := r.in(0, 6)
		sea, dock := r.crowd(many, 9, 5), r.crowd(many, 9, 5)
		if verdict, _, _, _ := catch.Honest(sea, dock); verdict == n {
			still++
			sea, dock = r.allSharper(sea), r.allSharper(dock)
			if verdict, pairs, _, e := catch.Honest(sea, dock); verdict != n || e != api.OK {
				t.Fatalf("Honest(%v, %v) returns %d %v %d, but with worse measures it was Never", sea, dock, verdict, pairs, e)
			}
		}
	}
	if decided < 1000 || still < 1000 {
		t.Errorf("only %d verdicts were decided, and %d lists were dishonest", decided, still)
	}
}
