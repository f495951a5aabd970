package ground

import "homarus/api"

// noMaster is the Master of a licence that has none.
const noMaster = -1

// CheckFleet returns the first error of a bay and its fleet, otherwise OK.
func CheckFleet(b api.Bay, f api.Fleet) api.Errno {
	if e := Check(b); e != api.OK {
		return e
	}
	if len(f.Licences) > api.MaxLicences {
		return api.ErrFull
	}
	for i := range f.Licences {
		if e := checkLicence(b, f.Licences, i); e != api.OK {
			return e
		}
	}
	if len(f.Tags) > api.MaxTraps {
		return api.ErrFull
	}
	for _, licence := range f.Tags {
		if !isIndex(licence, len(f.Licences)) {
			return api.ErrMissing
		}
	}
	return api.OK
}

func checkLicence(b api.Bay, list []api.Licence, i int) api.Errno {
	licence := list[i]
	if !isIndex(licence.Gang, b.Gangs) {
		return api.ErrMissing
	}
	if !within(licence.Most, 0, api.MaxTraps) {
		return api.ErrRange
	}
	if e := checkSpan(licence.Days, api.YearDays); e != api.OK {
		return e
	}
	return checkMaster(list[:i], licence)
}

// checkMaster returns the error of a licence's master, who is one of those before it.
func checkMaster(before []api.Licence, licence api.Licence) api.Errno {
	if licence.Master == noMaster {
		return api.OK
	}
	if !isIndex(licence.Master, len(before)) {
		return api.ErrMissing
	}
	master := before[licence.Master]
	if master.Master != noMaster {
		return api.ErrState
	}
	if master.Gang != licence.Gang {
		return api.ErrClash
	}
	return api.OK
}
