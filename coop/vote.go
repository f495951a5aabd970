package coop

import (
	"iter"
	"slices"

	"homarus/api"
)

// Decide says whether a motion passes, whatever those vote whose vote is open.
func Decide(weights, votes []int, need int) (int, api.Errno) {
	m := motion{weights, votes, need}
	if e := m.check(); e != api.OK {
		return 0, e
	}
	passes, fails := false, false
	for way := range m.ways() {
		if m.passes(way) {
			passes = true
		} else {
			fails = true
		}
	}
	switch {
	case !fails:
		return api.Sure, api.OK
	case !passes:
		return api.Never, api.OK
	}
	return api.Open, api.OK
}

// Swing returns the members whose vote is open, and may decide whether the motion passes.
func Swing(weights, votes []int, need int) ([]int, api.Errno) {
	m := motion{weights, votes, need}
	if e := m.check(); e != api.OK {
		return nil, e
	}
	var swings []int
	for member, vote := range m.votes {
		if vote == api.VoteOpen && m.turnsOn(member) {
			swings = append(swings, member)
		}
	}
	return swings, api.OK
}

// motion is what is voted on: with which weights, how each member votes so far, and how much is needed.
type motion struct {
	weights, votes []int
	need           int
}

// check returns the first error of a motion.
func (m motion) check() api.Errno {
	switch {
	case len(m.weights) == 0:
		return api.ErrShort
	case len(m.weights) > api.MaxAccounts:
		return api.ErrFull
	}
	for _, weight := range m.weights {
		if !within(weight, 0, api.MaxVoices) {
			return api.ErrRange
		}
	}
	if len(m.votes) != len(m.weights) {
		return api.ErrForm
	}
	for _, vote := range m.votes {
		if !within(vote, api.VoteOpen, api.VoteNo) {
			return api.ErrKind
		}
	}
	if !isPart(m.need) {
		return api.ErrRange
	}
	return api.OK
}

// ways hands out all ways to vote for those whose vote is open, each one with the votes of the others.
func (m motion) ways() iter.Seq[[]int] {
	return func(yield func([]int) bool) {
		var undecided []int
		for member, vote := range m.votes {
			if vote == api.VoteOpen {
				undecided = append(undecided, member)
			}
		}
		for way := range 1 << len(undecided) {
			votes := slices.Clone(m.votes)
			for i, member := range undecided {
				votes[member] = api.VoteYes
				if way>>i&1 == 1 {
					votes[member] = api.VoteNo
				}
			}
			if !yield(votes) {
				return
			}
		}
	}
}

// passes says whether the motion passes if all have voted so.
func (m motion) passes(votes []int) bool {
	yes := 0
	for member, vote := range votes {
		if vote == api.VoteYes {
			yes += m.weights[member]
		}
	}
	return yes*api.Mil > m.need*sum(m.weights...)
}

// turnsOn says whether the others can vote so that the motion passes if a member votes yes, and does not if the member votes no.
func (m motion) turnsOn(member int) bool {
	for votes := range m.ways() {
		if votes[member] != api.VoteYes || !m.passes(votes) {
			continue
		}
		votes[member] = api.VoteNo
		if !m.passes(votes) {
			return true
		}
	}
	return false
}
