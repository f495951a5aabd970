package whale

import "homarus/api"

// CheckRopes returns the first error of the ropes of the traps of a fleet, otherwise OK.
func CheckRopes(f api.Fleet, ropes []api.Rope) api.Errno {
	if len(ropes) != len(f.Tags) {
		return api.ErrForm
	}
	for _, r := range ropes {
		if e := checkRope(r); e != api.OK {
			return e
		}
	}
	return api.OK
}

func checkRope(r api.Rope) api.Errno {
	if !within(r.Kind, api.RopeStrong, api.RopeNone) {
		return api.ErrKind
	}
	if e := checkPart(r); e != api.OK {
		return e
	}
	if r.Mark != "" && !isMark(r.Mark) {
		return api.ErrForm
	}
	return api.OK
}

func checkPart(r api.Rope) api.Errno {
	switch {
	case r.Kind != api.RopeWeak && r.Part != api.Span{}:
		return api.ErrForm
	case r.Kind != api.RopeWeak:
		return api.OK
	case !isPull(r.Part.Lo) || !isPull(r.Part.Hi):
		return api.ErrRange
	case r.Part.Lo > r.Part.Hi:
		return api.ErrOrder
	}
	return api.OK
}

// isPull says whether a whale may pull so hard.
func isPull(n int) bool { return within(n, 1, api.MaxPart) }

// holds says whether a rope in the water does not part at a pull.
func holds(r api.Rope, pull int) int {
	switch {
	case r.Kind == api.RopeNone || r.Kind == api.RopeWeak && pull >= r.Part.Hi:
		return api.Never
	case r.Kind == api.RopeStrong || pull < r.Part.Lo:
		return api.Sure
	}
	return api.Open
}
