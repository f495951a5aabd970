package bay

import (
	"slices"

	"homarus/api"
	"homarus/ground"
	"homarus/whale"
)

// desk is the desk at work, in its harbour.
type desk struct {
	api.Desk
	api.Harbour
}

// reply returns the reply to a line. If the line is refused, the desk is as before.
func (d *desk) reply(line string) string {
	before := *d
	said, e := d.do(line)
	if e != api.OK {
		*d = before
		return row("error", numbers(int(e)))
	}
	return said
}

// spot returns the state of a trap.
func (d *desk) spot(tag int) api.Spot {
	// Nothing can be wrong: a desk is valid behind each line.
	spot, _ := ground.State(d.Bay, d.Fleet, d.Reports, tag, d.Day)
	return spot
}

// hasRoom says whether one more trap may be out for a licence, and for its master.
func (d *desk) hasRoom(number int) bool {
	licence := d.Fleet.Licences[number]
	if d.outFor(number) >= licence.Most {
		return false
	}
	return licence.Master < 0 || d.hasRoom(licence.Master)
}

// outFor returns how many traps are out that count for a licence: its own, and those of its apprentices.
func (d *desk) outFor(number int) int {
	many := 0
	for tag, own := range d.Fleet.Tags {
		counts := own == number || d.Fleet.Licences[own].Master == number
		if counts && d.spot(tag).State == api.TrapOut {
			many++
		}
	}
	return many
}

// isShut says whether a cell is shut, as a whale may be near.
func (d *desk) isShut(x, row int) bool {
	whales, _ := d.whales()
	shut, _ := whale.Shut(d.Bay, whales, d.Guard, d.Day)
	return slices.ContainsFunc(shut[row], func(s api.Span) bool { return within(x, s.Lo, s.Hi) })
}

// seen returns how many whales were seen. A whale that is seen first has the next number.
func (d *desk) seen() int {
	many := 0
	for _, s := range d.Sights {
		many = max(many, s.Whale+1)
	}
	return many
}

// whales returns the whales of the desk, numbered anew, and the own number of each one.
func (d *desk) whales() (w api.Whales, own []int) {
	w.Speed = d.Speed
	for number := range d.seen() {
		sights := d.sightsOf(number, len(own))
		if slices.ContainsFunc(sights, func(s api.Sight) bool { return s.Day >= d.Day-d.Memory }) {
			own = append(own, number)
			w.Sights = append(w.Sights, sights...)
		}
	}
	w.Many = len(own)
	return w, own
}

// sightsOf returns the sights of a whale that gets another number.
func (d *desk) sightsOf(number, other int) []api.Sight {
	var list []api.Sight
	for _, s := range d.Sights {
		if s.Whale == number {
			s.Whale = other
			list = append(list, s)
		}
	}
	return list
}

// with returns the animals that were taken with a fate.
func (d *desk) with(fate int) []api.Caught {
	var list []api.Caught
	for _, t := range d.Taken {
		if t.Fate == fate {
			list = append(list, t.Animal)
		}
	}
	return list
}

// events returns how many animals there are in the events of a kind.
func (d *desk) events(kind int) int {
	many := 0
	for _, event := range d.Events {
		if event.Kind == kind {
			many += event.Count
		}
	}
	return many
}
