package haul

import (
	"iter"

	"homarus/api"
)

// Best returns the best plan, and what it earns.
func Best(t api.Tour) (plan []int, earn int, e api.Errno) {
	if e := Check(t); e != api.OK {
		return nil, 0, e
	}
	// The search begins with the empty plan, which is possible and earns nothing; each possible plan begins with open ones alone.
	for c := range openPlans(t, func(course) bool { return true }) {
		sum, e := goHome(t, c)
		if e == api.OK && (sum.Earn > earn || sum.Earn == earn && len(c.plan) < len(plan)) {
			plan, earn = c.plan, sum.Earn
		}
	}
	return plan, earn, api.OK
}

// openPlans hands out the open plans in lexicographic order, from the empty one on; those that begin with a plan only if deeper says so.
func openPlans(t api.Tour, deeper func(course) bool) iter.Seq[course] {
	return func(yield func(course) bool) {
		var visit func(c course) bool
		visit = func(c course) bool {
			if !yield(c) {
				return false
			}
			if !deeper(c) {
				return true
			}
			for stop := range t.Stops {
				next, e := goOn(t, c, stop)
				if e == api.OK && isOpen(t, next) && !visit(next) {
					return false
				}
			}
			return true
		}
		visit(leave(t))
	}
}
