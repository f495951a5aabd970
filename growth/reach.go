package growth

import (
	"iter"

	"homarus/api"
)

// Reach returns, for each number of moults with which the animal may truly grow, the sizes that it may have with it.
func Reach(g api.Growth, a api.Animal, heat api.Span) ([]api.Reach, api.Errno) {
	ends, e := grow(g, a, heat)
	if e != api.OK {
		return nil, e
	}
	var list []api.Reach
	for moults, sizes := range ends {
		list = append(list, join(sizes.all(), func(s api.Span) api.Reach {
			return api.Reach{Moults: moults, Size: s}
		})...)
	}
	return list, api.OK
}

// Fits says whether all sizes that the animal may have are in sizes, or none, or some.
func Fits(g api.Growth, a api.Animal, heat, sizes api.Span) (int, api.Errno) {
	ends, e := grow(g, a, heat)
	if e != api.OK {
		return 0, e
	}
	if e := checkSizes(sizes); e != api.OK {
		return 0, e
	}
	return union(ends).verdict(between(sizes.Lo, sizes.Hi)), api.OK
}

// grow returns the sizes that the animal may have afterwards, by the number of its moults.
func grow(g api.Growth, a api.Animal, heat api.Span) ([]sizeSet, api.Errno) {
	if e := Check(g); e != api.OK {
		return nil, e
	}
	if e := checkAnimal(a); e != api.OK {
		return nil, e
	}
	if e := checkHeat(heat); e != api.OK {
		return nil, e
	}
	l := newLife(g, api.Span{Lo: a.Heat.Lo + heat.Lo, Hi: a.Heat.Hi + heat.Hi})
	var ends []sizeSet
	for n, now := range l.moults(between(a.Size.Lo, a.Size.Hi)) {
		if n > api.MaxMoults {
			return nil, api.ErrFull
		}
		ends = append(ends, l.done(now))
	}
	return ends, api.OK
}

func checkAnimal(a api.Animal) api.Errno {
	if e := checkSizes(a.Size); e != api.OK {
		return e
	}
	return checkHeat(a.Heat)
}

func union(sets []sizeSet) sizeSet {
	var all sizeSet
	for _, s := range sets {
		all = all.or(s)
	}
	return all
}

// courses are the sizes that an animal may have after some moults, by the least and the greatest sum of what these moults needed.
// What follows depends on the past by this sum and the size alone, as each whole number between the two sums may be the true one.
type courses map[api.Span]sizeSet

// life is what an animal grows by: its stages, with the sizes of each, the sizes that still grow, and the heat that it has in all.
type life struct {
	stages  []api.Stage
	sizes   []sizeSet
	growing sizeSet
	most    int
	store   api.Span
}

func newLife(g api.Growth, store api.Span) life {
	l := life{stages: g.Stages, growing: between(0, g.Most), most: g.Most, store: store}
	for i, stage := range g.Stages {
		last := api.MaxSize
		if i+1 < len(g.Stages) {
			last = g.Stages[i+1].From - 1
		}
		l.sizes = append(l.sizes, between(stage.From, last))
	}
	return l
}

// moults hands out the courses after 0, 1, 2 .. moults, as long as there may be so many.
func (l life) moults(first sizeSet) iter.Seq2[int, courses] {
	return func(yield func(int, courses) bool) {
		now := courses{api.Span{}: first}
		for n := 0; len(now) > 0; n++ {
			if !yield(n, now) {
				return
			}
			now = l.moult(now)
		}
	}
}

// moult returns the courses with one moult more.
func (l life) moult(now courses) courses {
	next := courses{}
	for needs, sizes := range now {
		for i, stage := range l.stages {
			sum := api.Span{Lo: needs.Lo + stage.Need.Lo, Hi: needs.Hi + stage.Need.Hi}
			part := sizes.and(l.sizes[i])
			if sum.Lo <= l.store.Hi && !part.empty() {
				next[sum] = next[sum].or(l.step(part, stage.Step))
			}
		}
	}
	return next
}

// step returns the sizes with a step more, but none beyond Most that was not there before.
func (l life) step(sizes sizeSet, step api.Span) sizeSet {
	grown := sizes.and(l.growing).stepped(step)
	next := grown.and(l.growing).or(sizes.without(l.growing))
	if !grown.without(l.growing).empty() {
		next = next.or(between(l.most, l.most))
	}
	return next
}

// done returns the sizes with which there may be no further moult: what is left of the heat may be less than the next one needs.
func (l life) done(now courses) sizeSet {
	var end sizeSet
	for needs, sizes := range now {
		for i, stage := range l.stages {
			if l.store.Lo-needs.Hi < stage.Need.Hi {
				end = end.or(sizes.and(l.sizes[i]))
			}
		}
	}
	return end
}
