package catch

import (
	"iter"
	"slices"

	"homarus/api"
)

// CheckTrip returns the first error of a trip, otherwise OK.
func CheckTrip(t api.Voyage) api.Errno {
	if e := Check(t.Gauge); e != api.OK {
		return e
	}
	if len(t.Pulls) > api.MaxPulls {
		return api.ErrFull
	}
	for i := range t.Pulls {
		if e := checkPull(t, i); e != api.OK {
			return e
		}
	}
	return api.OK
}

func checkPull(t api.Voyage, i int) api.Errno {
	p := t.Pulls[i]
	if !within(p.Tag, 0, api.MaxTraps-1) {
		return api.ErrRange
	}
	if slices.ContainsFunc(t.Pulls[:i], func(before api.Pull) bool { return before.Tag == p.Tag }) {
		return api.ErrExists
	}
	if len(p.Animals) > api.MaxPulled {
		return api.ErrFull
	}
	if len(p.Fates) != len(p.Animals) {
		return api.ErrForm
	}
	for i, c := range p.Animals {
		if e := checkFate(t.Gauge, c, p.Fates[i]); e != api.OK {
			return e
		}
	}
	return api.OK
}

// checkFate returns the error of an animal, and of what became of it.
func checkFate(g api.Gauge, c api.Caught, fate int) api.Errno {
	keep, e := Keep(g, c)
	if e != api.OK {
		return e
	}
	if !within(fate, api.FateKept, api.FateDead) {
		return api.ErrKind
	}
	if fate == api.FateKept && keep != api.Sure {
		return api.ErrClash
	}
	return api.OK
}

// Fates returns the animals that were kept, that went back, and that died.
func Fates(t api.Voyage) (kept, back, dead []api.Caught, e api.Errno) {
	if e := CheckTrip(t); e != api.OK {
		return nil, nil, nil, e
	}
	return gather(t, api.FateKept), gather(t, api.FateBack), gather(t, api.FateDead), api.OK
}

// Released returns the animals that went back, as they are in the sea then: females with eggs have got a notch.
func Released(t api.Voyage) ([]api.Caught, api.Errno) {
	if e := CheckTrip(t); e != api.OK {
		return nil, e
	}
	back := gather(t, api.FateBack)
	for i, c := range back {
		if c.Eggs == api.Sure {
			back[i].Notch = api.Sure
		}
	}
	return back, api.OK
}

// gather returns the animals of a trip of which something became that is one of the fates.
func gather(t api.Voyage, fates ...int) []api.Caught {
	var list []api.Caught
	for c, fate := range animals(t) {
		if slices.Contains(fates, fate) {
			list = append(list, c)
		}
	}
	return list
}

// count returns how many animals there are in a trip.
func count(t api.Voyage) int {
	return len(gather(t, api.FateKept, api.FateBack, api.FateDead))
}

// animals hands out the animals of a trip, in the order of the pulls, and what became of each.
func animals(t api.Voyage) iter.Seq2[api.Caught, int] {
	return func(yield func(api.Caught, int) bool) {
		for _, p := range t.Pulls {
			for i, c := range p.Animals {
				if !yield(c, p.Fates[i]) {
					return
				}
			}
		}
	}
}
