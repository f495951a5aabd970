package tank_test

import (
	"slices"
	"testing"

	"homarus/api"
	"homarus/tank"
)

func at(hour, oxygen, ammonia, warm int) api.Reading {
	return api.Reading{Hour: hour, Oxygen: oxygen, Ammonia: ammonia, Warm: warm}
}

// exampleLog is the first log of the chapter's examples for Honest.
func exampleLog() []api.Reading { return []api.Reading{at(1, 920, 1, 60), at(2, 900, 2, 60)} }

// hours returns a log of the same reading in hours from 0 on.
func hours(many int, r api.Reading) []api.Reading {
	log := slices.Repeat([]api.Reading{r}, many)
	for hour := range log {
		log[hour].Hour = hour
	}
	return log
}

// logErrors are changes of a log, and the first error that it has then.
func logErrors() map[string]struct {
	log  []api.Reading
	want api.Errno
} {
	good, wrong := api.Reading{Hour: 3, Warm: 60}, api.Reading{Hour: -1}
	return map[string]struct {
		log  []api.Reading
		want api.Errno
	}{
		"an empty log":                {nil, api.OK},
		"a log":                       {exampleLog(), api.OK},
		"the greatest numbers":        {[]api.Reading{at(48, 100000, 100000, 400)}, api.OK},
		"the least numbers":           {[]api.Reading{at(0, 0, 0, -50)}, api.OK},
		"49 readings":                 {hours(49, good), api.OK},
		"50 readings":                 {make([]api.Reading, 50), api.ErrFull},
		"50 readings, some wrong":     {slices.Repeat([]api.Reading{wrong}, 50), api.ErrFull},
		"hour -1":                     {[]api.Reading{wrong}, api.ErrRange},
		"hour 49":                     {[]api.Reading{at(49, 0, 0, 0)}, api.ErrRange},
		"oxygen -1":                   {[]api.Reading{at(0, -1, 0, 0)}, api.ErrRange},
		"oxygen 100001":               {[]api.Reading{at(0, 100001, 0, 0)}, api.ErrRange},
		"ammonia -1":                  {[]api.Reading{at(0, 0, -1, 0)}, api.ErrRange},
		"ammonia 100001":              {[]api.Reading{at(0, 0, 100001, 0)}, api.ErrRange},
		"warmth -51":                  {[]api.Reading{at(0, 0, 0, -51)}, api.ErrRange},
		"warmth 401":                  {[]api.Reading{at(0, 0, 0, 401)}, api.ErrRange},
		"the same hour":               {[]api.Reading{good, good}, api.ErrOrder},
		"an hour before":              {[]api.Reading{good, at(2, 0, 0, 0)}, api.ErrOrder},
		"an hour before the last one": {[]api.Reading{at(1, 0, 0, 0), at(3, 0, 0, 0), at(2, 0, 0, 0)}, api.ErrOrder},
		"wrong before order":          {[]api.Reading{good, at(2, 0, 0, 401)}, api.ErrRange},
		"order before wrong":          {[]api.Reading{good, good, wrong}, api.ErrOrder},
		"wrong before the next order": {[]api.Reading{good, at(4, 0, -1, 0), good}, api.ErrRange},
	}
}

// P7.5, P7.6: Honest and Write name the first error of a log; Read names Write's.
func TestLogErrors(t *testing.T) {
	for name, c := range logErrors() {
		if n, e := tank.Honest(examplePlant(), 0, c.log); e != c.want || e != api.OK && n != 0 {
			t.Errorf("%s: Honest returns %d %d, not %d", name, n, e, c.want)
		}
		if text, e := tank.Write(0, c.log); e != c.want || (e == api.OK) != (text != "") {
			t.Errorf("%s: Write returns %q %d, not %d", name, text, e, c.want)
		}
		if number, log, row, e := tank.Read(trueText(5, c.log)); e != c.want || row != 0 || e != api.OK && (number != 0 || len(log) > 0) {
			t.Errorf("%s: Read returns %d %v %d %d, not %d", name, number, log, row, e, c.want)
		}
		for _, wrong := range []int{-1, 1} {
			if n, e := tank.Honest(examplePlant(), wrong, c.log); n != 0 || e != api.ErrMissing {
				t.Errorf("%s: Honest returns %d %d for the tank %d", name, n, e, wrong)
			}
		}
		for _, wrong := range []int{-1, 6} {
			if text, e := tank.Write(wrong, c.log); text != "" || e != api.ErrMissing {
				t.Errorf("%s: Write returns %q %d for the tank %d", name, text, e, wrong)
			}
			if number, log, row, e := tank.Read(trueText(wrong, c.log)); number != 0 || len(log) > 0 || row != 0 || e != api.ErrMissing {
				t.Errorf("%s: Read returns %d %v %d %d for the tank %d", name, number, log, row, e, wrong)
			}
		}
	}
}

// P7.5: the chapter's examples, both ends of what may be, and logs that are so in different scenarios alone.
func TestHonest(t *testing.T) {
	for name, c := range map[string]struct {
		log  []api.Reading
		want int
	}{
		"the example":                       {exampleLog(), 2},
		"950 in the hour 2":                 {[]api.Reading{at(1, 920, 1, 60), at(2, 950, 2, 60)}, 1},
		"930 in the hour 1":                 {[]api.Reading{at(1, 930, 1, 60), at(2, 900, 2, 60)}, 0},
		"empty":                             {nil, 0},
		"the beginning":                     {[]api.Reading{at(0, 900, 0, 60)}, 1},
		"not the beginning":                 {[]api.Reading{at(0, 901, 0, 60)}, 0},
		"the beginning, ammonia":            {[]api.Reading{at(0, 900, 1, 60)}, 0},
		"the beginning, warmth":             {[]api.Reading{at(0, 900, 0, 61)}, 0},
		"only the first one is not":         {[]api.Reading{at(0, 901, 0, 60), at(1, 920, 1, 60)}, 0},
		"least of all pumps":                {[]api.Reading{at(1, 915, 1, 52)}, 1},
		"most of all pumps":                 {[]api.Reading{at(1, 925, 1, 68)}, 1},
		"above":                             {[]api.Reading{at(1, 926, 1, 60)}, 0},
		"below, but with one pump":          {[]api.Reading{at(1, 875, 1, 60)}, 1},
		"between two scenarios":             {[]api.Reading{at(1, 876, 1, 60)}, 0},
		"too warm for a single pump":        {[]api.Reading{at(1, 875, 1, 64)}, 0},
		"one pump, and then two of them":    {[]api.Reading{at(1, 865, 1, 60), at(2, 932, 1, 60)}, 1},
		"two pumps, and then one of them":   {[]api.Reading{at(1, 925, 1, 60), at(2, 900, 1, 60)}, 2},
		"all in one scenario, none between": {[]api.Reading{at(0, 900, 0, 60), at(2, 838, 2, 55)}, 2},
		"each one in another scenario":      {[]api.Reading{at(1, 920, 1, 60), at(2, 838, 2, 60)}, 1},
		"the last one of three is not":      {[]api.Reading{at(0, 900, 0, 60), at(1, 920, 1, 60), at(2, 838, 2, 60)}, 2},
		"the middle one of three is not":    {[]api.Reading{at(0, 900, 0, 60), at(1, 926, 1, 60), at(2, 920, 2, 60)}, 1},
	} {
		if n, e := tank.Honest(examplePlant(), 0, c.log); n != c.want || e != api.OK {
			t.Errorf("%s: Honest returns %d %d, not %d", name, n, e, c.want)
		}
	}
}

// P7.5: a pump may fail from any hour before the last reading on; it does not matter whether it is one of another tank.
func TestHonestScenarios(t *testing.T) {
	p := oneTank(1, still(0, 0, 0))
	p.Tanks = append(p.Tanks, api.Tank{Litres: 1, Water: still(5, 0, 0)})
	p.Pumps, p.Sea, p.Air = []api.Pump{{Flow: 1}, {Tank: 1, Flow: 1}}, still(9, 0, 0), one(1)
	// With its pump a tank has 10; once it fails, it has 1 more each hour.
	for name, c := range map[string]struct {
		number int
		oxygen []int
		want   int
	}{
		"no pump fails":         {0, []int{0, 10, 10, 10}, 4},
		"from 0 on":             {0, []int{0, 1, 2, 3}, 4},
		"from 1 on":             {0, []int{0, 10, 11, 12}, 4},
		"from 2 on":             {0, []int{0, 10, 10, 11}, 4},
		"it works again":        {0, []int{0, 10, 11, 10}, 3},
		"no pump of the tank 1": {1, []int{5, 10, 10, 10}, 4},
		"the pump of the tank":  {1, []int{5, 6, 7, 8}, 4},
		"the other tank's log":  {1, []int{0, 10, 10, 10}, 0},
		"nothing at all":        {1, []int{5, 5, 5, 5}, 1},
	} {
		var log []api.Reading
		for hour, oxygen := range c.oxygen {
			log = append(log, api.Reading{Hour: hour, Oxygen: oxygen})
		}
		if n, e := tank.Honest(p, c.number, log); n != c.want || e != api.OK {
			t.Errorf("%s: Honest returns %d %d, not %d", name, n, e, c.want)
		}
	}
	long := hours(49, api.Reading{Oxygen: 10})
	long[0].Oxygen = 0
	if n, e := tank.Honest(p, 0, long); n != 49 || e != api.OK {
		t.Errorf("Honest returns %d %d for 49 readings", n, e)
	}
	long[48].Oxygen = 11
	if n, e := tank.Honest(p, 0, long); n != 49 || e != api.OK {
		t.Errorf("Honest returns %d %d if the pump fails in the last hour", n, e)
	}
	long[48].Oxygen = 12
	if n, e := tank.Honest(p, 0, long); n != 48 || e != api.OK {
		t.Errorf("Honest returns %d %d if the last reading is not true", n, e)
	}
}
