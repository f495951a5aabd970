package trade

import "homarus/api"

// Book returns for each grade what became of it.
func Book(m []api.Grade, l []api.Event) ([]api.Balance, api.Errno) {
	stalls, e := doAll(m, l)
	if e != api.OK {
		return nil, e
	}
	var balances []api.Balance
	for _, s := range stalls {
		balances = append(balances, s.balance())
	}
	return balances, api.OK
}

// The numbers of wares.
const (
	animals = iota
	grams
)

// wares are a number of animals, and their grams.
type wares [2]int

// stall is what is left of a grade, and what was done so far by the events of each kind.
type stall struct {
	left wares
	done [api.EventDrip + 1]wares
}

func (s stall) balance() api.Balance {
	return api.Balance{
		Bought:  s.done[api.EventBuy],
		Died:    s.done[api.EventDie],
		Sold:    s.done[api.EventSell],
		Back:    s.done[api.EventBack],
		Left:    s.left,
		Dripped: s.done[api.EventDrip][grams],
	}
}

// doAll returns the first error of a market and a ledger, otherwise the stalls of all grades behind the last event.
func doAll(m []api.Grade, l []api.Event) ([]stall, api.Errno) {
	if e := Check(m); e != api.OK {
		return nil, e
	}
	if len(l) > api.MaxEvents {
		return nil, api.ErrFull
	}
	stalls := make([]stall, len(m))
	for _, event := range l {
		if e := checkEvent(event, len(m)); e != api.OK {
			return nil, e
		}
		if e := stalls[event.Grade].do(event); e != api.OK {
			return nil, e
		}
	}
	return stalls, api.OK
}

// checkEvent returns the first error of the numbers of an event.
func checkEvent(event api.Event, grades int) api.Errno {
	switch {
	case !within(event.Kind, api.EventBuy, api.EventDrip):
		return api.ErrKind
	case !isIndex(event.Grade, grades):
		return api.ErrMissing
	case !isWare(event.Count) || !isWare(event.Grams):
		return api.ErrRange
	}
	return api.OK
}

// do does an event, unless it has an error.
func (s *stall) do(event api.Event) api.Errno {
	change := s.take
	switch event.Kind {
	case api.EventBuy:
		change = s.put
		fallthrough
	case api.EventDie, api.EventSell, api.EventBack:
		if event.Count == 0 {
			return api.ErrForm
		}
	case api.EventDrip:
		if event.Count > 0 {
			return api.ErrForm
		}
	}
	w := wares{animals: event.Count, grams: event.Grams}
	if !change(w) {
		return api.ErrShort
	}
	if !canBe(s.left) {
		return api.ErrClash
	}
	s.done[event.Kind] = plus(s.done[event.Kind], w)
	return api.OK
}

// put adds to what is left, which is always possible.
func (s *stall) put(w wares) bool {
	s.left = plus(s.left, w)
	return true
}

// take takes away from what is left, and says whether there is enough.
func (s *stall) take(w wares) bool {
	if w[animals] > s.left[animals] || w[grams] > s.left[grams] {
		return false
	}
	s.left = plus(s.left, wares{-w[animals], -w[grams]})
	return true
}

// canBe says whether animals may weigh so much together: each one a gram or more.
func canBe(w wares) bool {
	return w[grams] >= w[animals] && (w[animals] > 0 || w[grams] == 0)
}
