package catch

import (
	"iter"
	"math/bits"

	"homarus/api"
)

// Honest says whether the animals of dock can be those of sea: Open with the first pairs of all, or Never with the first one of the smallest proofs.
func Honest(sea, dock []api.Caught) (verdict int, pairs, proof []int, e api.Errno) {
	if len(sea) > api.MaxLanded || len(dock) > api.MaxLanded {
		return 0, nil, nil, api.ErrFull
	}
	if e := checkEach(sea); e != api.OK {
		return 0, nil, nil, e
	}
	if e := checkEach(dock); e != api.OK {
		return 0, nil, nil, e
	}
	if len(sea) != len(dock) {
		return api.Never, nil, nil, api.OK
	}
	mates := matesOf(sea, dock)
	if pairs, ok := firstPairs(mates); ok {
		return api.Open, pairs, nil, api.OK
	}
	return api.Never, nil, smallestProof(mates), api.OK
}

// matesOf returns for each animal of dock the animals of sea with which it can be one.
func matesOf(sea, dock []api.Caught) []set {
	mates := make([]set, len(dock))
	for i, landed := range dock {
		for j, hauled := range sea {
			if canBeOne(landed, hauled) {
				mates[i] = mates[i].with(j)
			}
		}
	}
	return mates
}

func canBeOne(a, b api.Caught) bool {
	return a.Sex == b.Sex && a.Shell == b.Shell && a.Size.Lo <= b.Size.Hi && b.Size.Lo <= a.Size.Hi &&
		agree(a.Eggs, b.Eggs) && agree(a.Notch, b.Notch)
}

// agree says whether two verdicts can be on one thing.
func agree(a, b int) bool { return a == b || a == api.Open || b == api.Open }

// firstPairs returns the first pairs in lexicographic order, and whether there are any.
func firstPairs(mates []set) (pairs []int, ok bool) {
	ends := goodEnds(mates)
	var taken set
landed:
	for _, m := range mates {
		for mate := range (m &^ taken).all() {
			if ends[taken.with(mate)] {
				taken = taken.with(mate)
				pairs = append(pairs, mate)
				continue landed
			}
		}
		return nil, false
	}
	return pairs, true
}

// goodEnds returns for each set of animals of sea whether, if the first animals of dock have taken just these, the others can be paired with those that are left.
func goodEnds(mates []set) []bool {
	good := make([]bool, 1<<len(mates))
	all := len(good) - 1
	good[all] = true
	// A set with one animal more is a greater number: what is asked for it has been found before.
	for n := all - 1; n >= 0; n-- {
		taken := set(n)
		for mate := range (mates[taken.size()] &^ taken).all() {
			good[n] = good[n] || good[taken.with(mate)]
		}
	}
	return good
}

// smallestProof returns the proof with the fewest animals of dock, of these the first one in lexicographic order. Where there are no pairs there is a proof (this is Hall's theorem).
func smallestProof(mates []set) []int {
	var best set
	for n := range 1 << len(mates) {
		if s := set(n); matesOfAny(mates, s).size() < s.size() && (best == 0 || s.before(best)) {
			best = s
		}
	}
	var proof []int
	for i := range best.all() {
		proof = append(proof, i)
	}
	return proof
}

// matesOfAny returns the animals of sea that can be one with any animal of a set.
func matesOfAny(mates []set, s set) set {
	var found set
	for i := range s.all() {
		found |= mates[i]
	}
	return found
}

// set is a set of animals of a list: its bit i says whether it has the animal i.
type set uint16

func (s set) with(i int) set { return s | 1<<i }

func (s set) size() int { return bits.OnesCount16(uint16(s)) }

// all hands out the animals, ascending.
func (s set) all() iter.Seq[int] {
	return func(yield func(int) bool) {
		for ; s != 0; s &= s - 1 {
			if !yield(bits.TrailingZeros16(uint16(s))) {
				return
			}
		}
	}
}

// before says whether a set has fewer animals than another one, or as many, and comes first in lexicographic order.
func (s set) before(t set) bool {
	if s.size() != t.size() {
		return s.size() < t.size()
	}
	only := s &^ t
	return only != 0 && bits.TrailingZeros16(uint16(only)) < bits.TrailingZeros16(uint16(t&^s))
}
