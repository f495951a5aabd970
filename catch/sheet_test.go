package catch_test

import (
	"fmt"
	"regexp"
	"slices"
	"strconv"
	"strings"
	"testing"

	"homarus/api"
	"homarus/catch"
)

// exampleSheet is that of the chapter's last example.
const exampleSheet = "gauge 830 1270 eggs notch -\npull 3\nkept 900 900 m n n soft\nback 950 960 f y ? hard\nend 2\n"

// longSheet is that of the long trip.
const longSheet = "gauge 830 1270 eggs notch -\npull 3\nkept 900 900 m n n soft\nback 950 960 f y ? hard\npull 39\npull 0\n" +
	"back 825 835 f n n hard\nkept 830 840 f n n hard\ndead 900 900 m n n soft\ndead 1 2 f n n hard\nback 950 960 f y ? hard\nend 7\n"

// sameTrip says whether two trips are equal; a nil slice is an empty one.
func sameTrip(a, b api.Voyage) bool {
	return a.Gauge == b.Gauge && slices.EqualFunc(a.Pulls, b.Pulls, func(a, b api.Pull) bool {
		return a.Tag == b.Tag && slices.Equal(a.Animals, b.Animals) && slices.Equal(a.Fates, b.Fates)
	})
}

// tripOfLength returns a trip whose sheet has so many bytes, from 7986 to 8006.
func tripOfLength(bytes int) api.Voyage {
	t := fullTrip(20, 16)
	for i := range 5 {
		t.Pulls[i] = fullTrip(i+1, 17).Pulls[i]
	}
	for i := range bytes - 7986 {
		t.Pulls[i].Animals[0].Size.Hi = 1000 // a digit more
	}
	return t
}

// P4.5: sheets of the examples, of no pull, and of all words.
func TestSheet(t *testing.T) {
	all := api.Voyage{Gauge: api.Gauge{High: 2500, Soft: true}, Pulls: []api.Pull{{Tag: 9, Fates: []int{dead, dead, dead}, Animals: []api.Caught{
		{Size: span(0, 2500), Sex: api.Female, Eggs: n, Notch: y, Shell: api.ShellOld},
		{Size: one(0), Sex: api.Female, Eggs: o, Notch: o, Shell: api.ShellSoft},
		{Size: one(2500), Sex: api.Male, Eggs: n, Notch: n, Shell: api.ShellHard},
	}}}}
	for text, trip := range map[string]api.Voyage{
		exampleSheet:               exampleTrip(),
		longSheet:                  longTrip(),
		"gauge 0 0 - - -\nend 0\n": {},
		"gauge 830 1270 eggs notch -\npull 0\npull 1\nend 0\n":                                                          fullTrip(2, 0),
		"gauge 0 2500 - - soft\npull 9\ndead 0 2500 f n y old\ndead 0 0 f ? ? soft\ndead 2500 2500 m n n hard\nend 3\n": all,
	} {
		if s, e := catch.Write(trip); s != text || e != api.OK {
			t.Errorf("Write returns %q %d, not %q", s, e, text)
		}
		if read, row, e := catch.Read(text); !sameTrip(read, trip) || row != 0 || e != api.OK {
			t.Errorf("Read returns %v %d %d, not %v", read, row, e, trip)
		}
	}
	for i := range 8 {
		trip := api.Voyage{Gauge: api.Gauge{Low: 5, High: 6, Eggs: i&1 > 0, Notch: i&2 > 0, Soft: i&4 > 0}}
		if s, e := catch.Write(trip); s != trueSheet(trip) || e != api.OK {
			t.Errorf("Write returns %q %d, not %q", s, e, trueSheet(trip))
		}
	}
}

// P4.5: a sheet has at most 8000 bytes; CheckTrip's error comes before that.
func TestLongSheets(t *testing.T) {
	for bytes := 7998; bytes <= 8003; bytes++ {
		trip := tripOfLength(bytes)
		text := trueSheet(trip)
		want := api.OK
		if bytes > 8000 {
			want = api.ErrLong
		}
		if s, e := catch.Write(trip); len(text) != bytes || e != want || (e == api.OK) != (s == text) || e != api.OK && s != "" {
			t.Errorf("%d bytes: Write returns %d bytes, %d", len(text), len(s), e)
		}
		if read, row, e := catch.Read(text); row != 0 || e != want || e == api.OK && !sameTrip(read, trip) || e != api.OK && !sameTrip(read, api.Voyage{}) {
			t.Errorf("%d bytes: Read returns %v %d %d", len(text), read, row, e)
		}
		trip.Pulls[19].Fates[0] = 4
		if s, e := catch.Write(trip); s != "" || e != api.ErrKind {
			t.Errorf("%d bytes: Write returns %d bytes, %d", bytes, len(s), e)
		}
	}
	if s, e := catch.Write(fullTrip(20, 30)); s != "" || e != api.ErrLong {
		t.Errorf("Write returns %d bytes, %d", len(s), e)
	}
}

// P4.5: the first row that is not as it has to be, then a wrong number of animals, then the error of the trip.
func TestReadErrors(t *testing.T) {
	const gauge, pull, animal = "gauge 0 9 - - -\n", "pull 0\n", "kept 1 2 m n n hard\n"
	const head = gauge + pull
	for text, c := range map[string]struct {
		row  int
		want api.Errno
	}{
		"":                                     {1, api.ErrForm},
		"\n":                                   {1, api.ErrForm},
		"x":                                    {1, api.ErrForm},
		" ":                                    {1, api.ErrForm},
		"gauge":                                {1, api.ErrForm},
		"gauge\n":                              {1, api.ErrForm},
		"gauge 0 9 - - -":                      {1, api.ErrForm},
		"gauge 0 9 - -\n":                      {1, api.ErrForm},
		"gauge 0 9 - - - -\n":                  {1, api.ErrForm},
		"gauge 0 - - -\n":                      {1, api.ErrForm},
		"gauge - - - 0 9\n":                    {1, api.ErrForm},
		"gauge 0 9 notch eggs -\n":             {1, api.ErrForm},
		"gauge 0 9 - - eggs\n":                 {1, api.ErrForm},
		"gauge 0 9 soft - -\n":                 {1, api.ErrForm},
		"gauge 0 9 - soft -\n":                 {1, api.ErrForm},
		"gauge 0 9 Eggs - -\n":                 {1, api.ErrForm},
		"gauge 0 9 eggs notch softy\n":         {1, api.ErrForm},
		"gauge 0 9 eggs notch --\n":            {1, api.ErrForm},
		"gauge 0 9 eggs notch \n":              {1, api.ErrForm},
		"gauge 0 9 eggs  notch\n":              {1, api.ErrForm},
		"gauge 0 9 - - - \n":                   {1, api.ErrForm},
		"gauge  0 9 - - -\n":                   {1, api.ErrForm},
		" gauge 0 9 - - -\n":                   {1, api.ErrForm},
		"gauge\t0 9 - - -\n":                   {1, api.ErrForm},
		"gauge 0 9 - - -\r\n":                  {1, api.ErrForm},
		"Gauge 0 9 - - -\n":                    {1, api.ErrForm},
		"gauge 0 1234567 - - -\n":              {1, api.ErrForm},
		"gauge 0 0123456 - - -\n":              {1, api.ErrForm},
		"gauge 00 9 - - -\n":                   {1, api.ErrForm},
		"gauge -0 9 - - -\n":                   {1, api.ErrForm},
		"gauge 0 -9 - - -\n":                   {1, api.ErrForm},
		"gauge 0 +9 - - -\n":                   {1, api.ErrForm},
		"gauge 0 0x9 - - -\n":                  {1, api.ErrForm},
		"gauge 0 1_0 - - -\n":                  {1, api.ErrForm},
		"gauge 0 9.0 - - -\n":                  {1, api.ErrForm},
		"gauge 0 x - - -\n":                    {1, api.ErrForm},
		"gauge 0 18446744073709551616 - - -\n": {1, api.ErrForm},
		pull + gauge + "end 0\n":               {1, api.ErrForm},
		animal + head + "end 0\n":              {1, api.ErrForm},
		"end 0\n":                              {1, api.ErrForm},
		"end 0\n" + gauge:                      {1, api.ErrForm},
		gauge:                                  {2, api.ErrForm},
		gauge + "\n":                           {2, api.ErrForm},
		gauge + gauge + "end 0\n":              {2, api.ErrForm},
		gauge + animal + "end 1\n":             {2, api.ErrForm},
		gauge + animal + pull + "end 1\n":      {2, api.ErrForm},
		gauge + "pull\n":                       {2, api.ErrForm},
		gauge + "pull \n":                      {2, api.ErrForm},
		gauge + "pull 0 0\n":                   {2, api.ErrForm},
		gauge + "pull 00\n":                    {2, api.ErrForm},
		gauge + "pull -1\n":                    {2, api.ErrForm},
		gauge + "pull 1000000\n":               {2, api.ErrForm},
		gauge + "pull x\n":                     {2, api.ErrForm},
		gauge + "pull 0":                       {2, api.ErrForm},
		gauge + "Pull 0\n":                     {2, api.ErrForm},
		gauge + "end 0":                        {2, api.ErrForm},
		gauge + "end\n":                        {2, api.ErrForm},
		gauge + "end 0 0\n":                    {2, api.ErrForm},
		gauge + "end 00\n":                     {2, api.ErrForm},
		gauge + "end -0\n":                     {2, api.ErrForm},
		gauge + "end x\n":                      {2, api.ErrForm},
		gauge + "end 1":                        {2, api.ErrForm},
		gauge + "End 0\n":                      {2, api.ErrForm},
		head:                                   {3, api.ErrForm},
		head + gauge:                           {3, api.ErrForm},
		head + "\n":                            {3, api.ErrForm},
		head + "x\n":                           {3, api.ErrForm},
		head + "- 1 2 m n n hard\n":            {3, api.ErrForm},
		head + "m 1 2 m n n hard\n":            {3, api.ErrForm},
		head + " 1 2 m n n hard\n":             {3, api.ErrForm},
		head + "1 2 m n n hard\n":              {3, api.ErrForm},
		head + "Kept 1 2 m n n hard\n":         {3, api.ErrForm},
		head + "kept\n":                        {3, api.ErrForm},
		head + "kept 1 m n n hard\n":           {3, api.ErrForm},
		head + "kept 1 2 n n hard\n":           {3, api.ErrForm},
		head + "kept 1 2 m n hard\n":           {3, api.ErrForm},
		head + "kept 1 2 m n n\n":              {3, api.ErrForm},
		head + "kept 1 2 m n n \n":             {3, api.ErrForm},
		head + "kept 1 2  n n hard\n":          {3, api.ErrForm},
		head + "kept 1 2 m  n hard\n":          {3, api.ErrForm},
		head + "kept 1 2 m n n hard \n":        {3, api.ErrForm},
		head + "kept 1 2 m n n hard 1\n":       {3, api.ErrForm},
		head + "kept  1 2 m n n hard\n":        {3, api.ErrForm},
		head + "kept 01 2 m n n hard\n":        {3, api.ErrForm},
		head + "kept 1 -2 m n n hard\n":        {3, api.ErrForm},
		head + "kept 1 1000000 m n n hard\n":   {3, api.ErrForm},
		head + "kept 1 2 M n n hard\n":         {3, api.ErrForm},
		head + "kept 1 2 x n n hard\n":         {3, api.ErrForm},
		head + "kept 1 2 1 n n hard\n":         {3, api.ErrForm},
		head + "kept 1 2 y n n hard\n":         {3, api.ErrForm},
		head + "kept 1 2 m m n hard\n":         {3, api.ErrForm},
		head + "kept 1 2 m Y n hard\n":         {3, api.ErrForm},
		head + "kept 1 2 m n - hard\n":         {3, api.ErrForm},
		head + "kept 1 2 m n ?? hard\n":        {3, api.ErrForm},
		head + "kept 1 2 m n n Hard\n":         {3, api.ErrForm},
		head + "kept 1 2 m n n 1\n":            {3, api.ErrForm},
		head + "kept 1 2 m n n -\n":            {3, api.ErrForm},
		head + "kept 1 2 m n n back\n":         {3, api.ErrForm},
		head + "kept 1 2 m n n hard":           {3, api.ErrForm},
		head + "hard 1 2 m n n kept\n":         {3, api.ErrForm},
		head + animal:                          {4, api.ErrForm},
		head + animal + "kept\nback\n":         {4, api.ErrForm},
		head + animal + gauge:                  {4, api.ErrForm},
		gauge + "end 0\n\n":                    {3, api.ErrForm},
		gauge + "end 0\nx":                     {3, api.ErrForm},
		gauge + "end 0\nend 0\n":               {3, api.ErrForm},
		gauge + "end 0\n" + pull:               {3, api.ErrForm},
		gauge + "end 0\n" + gauge:              {3, api.ErrForm},
		head + "end 0\n" + animal:              {4, api.ErrForm},
		exampleSheet + "x":                     {6, api.ErrForm},
		exampleSheet + "\n":                    {6, api.ErrForm},
		exampleSheet + exampleSheet:            {6, api.ErrForm},

		// What stands behind the row "end" is named before a wrong number in it, and that before the error of the trip.
		gauge + "end 1\n":                              {2, api.ErrForm},
		gauge + "end 1\nx":                             {3, api.ErrForm},
		gauge + "end 1\nend 0\n":                       {3, api.ErrForm},
		head + "end 1\n":                               {3, api.ErrForm},
		head + "end 1\n" + animal:                      {4, api.ErrForm},
		head + animal + "end 0\n":                      {4, api.ErrForm},
		head + animal + "end 2\n":                      {4, api.ErrForm},
		head + animal + "end 999999\n":                 {4, api.ErrForm},
		head + animal + pull + animal + "end 1\n":      {6, api.ErrForm},
		"gauge 9 0 - - -\nend 1\n":                     {2, api.ErrForm},
		strings.Replace(exampleSheet, "d 2", "d 1", 1): {5, api.ErrForm},
		strings.Replace(exampleSheet, "d 2", "d 3", 1): {5, api.ErrForm},
		"gauge 9 0 - - -\n" + animal:                   {2, api.ErrForm},

		exampleSheet:                                               {0, api.OK},
		longSheet:                                                  {0, api.OK},
		gauge + "end 0\n":                                          {0, api.OK},
		head + animal + "end 1\n":                                  {0, api.OK},
		"gauge 9 0 - - -\nend 0\n":                                 {0, api.ErrOrder},
		"gauge 0 999999 - - -\nend 0\n":                            {0, api.ErrRange},
		"gauge 999999 0 - - -\nend 0\n":                            {0, api.ErrRange},
		gauge + "pull 40\nend 0\n":                                 {0, api.ErrRange},
		gauge + "pull 999999\nend 0\n":                             {0, api.ErrRange},
		head + pull + "end 0\n":                                    {0, api.ErrExists},
		head + animal + pull + animal + "end 2\n":                  {0, api.ErrExists},
		head + "kept 2 1 m n n hard\nend 1\n":                      {0, api.ErrOrder},
		head + "kept 1 999999 m n n hard\nend 1\n":                 {0, api.ErrRange},
		head + "kept 1 2 m ? n hard\nend 1\n":                      {0, api.ErrClash},
		head + "kept 1 2 m n y hard\nend 1\n":                      {0, api.ErrClash},
		head + "kept 1 10 m n n hard\nend 1\n":                     {0, api.ErrClash},
		head + "back 1 10 m n n hard\nend 1\n":                     {0, api.OK},
		head + "dead 1 10 f ? y old\nend 1\n":                      {0, api.OK},
		head + strings.Repeat(animal, 30) + "end 30\n":             {0, api.OK},
		head + strings.Repeat(animal, 31) + "end 31\n":             {0, api.ErrFull},
		head + strings.Repeat(animal, 31) + "end 30\n":             {34, api.ErrForm},
		gauge + strings.Repeat(pull, 21) + "end 0\n":               {0, api.ErrFull},
		gauge + strings.Repeat(pull, 20) + "end 0\n":               {0, api.ErrExists},
		gauge + strings.Repeat(pull, 1139) + "end 0\n":             {0, api.ErrFull},
		head + strings.Repeat(animal, 398):                         {401, api.ErrForm},
		strings.Repeat("x", 8000):                                  {1, api.ErrForm},
		strings.Repeat("x", 8001):                                  {0, api.ErrLong},
		strings.Repeat("\n", 8001):                                 {0, api.ErrLong},
		exampleSheet + strings.Repeat("x", 8000-len(exampleSheet)): {6, api.ErrForm},
		exampleSheet + strings.Repeat("x", 8001-len(exampleSheet)): {0, api.ErrLong},
	} {
		trip, row, e := catch.Read(text)
		if row != c.row || e != c.want {
			t.Errorf("%q: Read returns %d %d, not %d %d", text, row, e, c.row, c.want)
		}
		if e != api.OK && !sameTrip(trip, api.Voyage{}) {
			t.Errorf("%q: Read returns %v with an error", text, trip)
		}
	}
}

// trueSheet returns the sheet of a trip, be it too long or not.
func trueSheet(t api.Voyage) string {
	fate := map[int]string{kept: "kept", back: "back", dead: "dead"}
	sex := map[int]string{api.Male: "m", api.Female: "f"}
	verdict := map[int]string{y: "y", n: "n", o: "?"}
	shell := map[int]string{api.ShellHard: "hard", api.ShellSoft: "soft", api.ShellOld: "old"}
	eggs, notch, soft := map[bool]string{true: "eggs", false: "-"}, map[bool]string{true: "notch", false: "-"}, map[bool]string{true: "soft", false: "-"}
	text := fmt.Sprintf("gauge %d %d %s %s %s\n", t.Gauge.Low, t.Gauge.High, eggs[t.Gauge.Eggs], notch[t.Gauge.Notch], soft[t.Gauge.Soft])
	animals := 0
	for _, p := range t.Pulls {
		text += fmt.Sprintf("pull %d\n", p.Tag)
		for i, c := range p.Animals {
			text += fmt.Sprintf("%s %d %d %s %s %s %s\n", fate[p.Fates[i]], c.Size.Lo, c.Size.Hi, sex[c.Sex], verdict[c.Eggs], verdict[c.Notch], shell[c.Shell])
			animals++
		}
	}
	return text + fmt.Sprintf("end %d\n", animals)
}

// trueRow returns the number of the row of a sheet for which it is ErrForm by P4.5, 0 if there is none.
func trueRow(text string) int {
	const number = ` (0|[1-9][0-9]{0,5})`
	gauge, pull := regexp.MustCompile(`^gauge`+number+number+` (eggs|-) (notch|-) (soft|-)\n$`), regexp.MustCompile(`^pull`+number+`\n$`)
	animal, end := regexp.MustCompile(`^(kept|back|dead)`+number+number+` [mf] [yn?] [yn?] (hard|soft|old)\n$`), regexp.MustCompile(`^end`+number+`\n$`)
	hasPull, animals := false, 0
	rows := strings.SplitAfter(text, "\n")
	for i, row := range rows {
		switch {
		case i == 0 && gauge.MatchString(row):
		case i > 0 && pull.MatchString(row):
			hasPull = true
		case hasPull && animal.MatchString(row):
			animals++
		case i > 0 && end.MatchString(row):
			if rows[i+1] != "" {
				return i + 2
			}
			if end.FindStringSubmatch(row)[1] != strconv.Itoa(animals) {
				return i + 1
			}
			return 0
		default:
			return i + 1
		}
	}
	return len(rows) + 1
}

// P4.5, P4.13, T8: a sheet is read as its trip, and what is read is written as it was; otherwise the first row that is wrong is named.
func TestSheetsThereAndBack(t *testing.T) {
	r := newRandom()
	found, wrong := map[api.Errno]int{}, 0
	for range 6000 {
		trip := r.trip(4, 4)
		text, e := catch.Write(trip)
		if want := trueSheet(trip); text != want || e != api.OK {
			t.Fatalf("%v is written as %q %d, not %q", trip, text, e, want)
		}
		if read, row, e := catch.Read(text); !sameTrip(read, trip) || row != 0 || e != api.OK {
			t.Fatalf("%q is read as %v %d %d", text, read, row, e)
		}
		other := r.changedText(text)
		read, row, e := catch.Read(other)
		if want := trueRow(other); row != want || want > 0 && e != api.ErrForm || want == 0 && e == api.ErrForm || e != api.OK && !sameTrip(read, api.Voyage{}) {
			t.Fatalf("%q is read as %v %d %d, but the row %d is wrong", other, read, row, e, want)
		}
		if row > 0 {
			wrong++
			continue
		}
		found[e]++
		if e != api.OK {
			continue
		}
		if again, e := catch.Write(read); again != other || e != api.OK {
			t.Fatalf("%q is read as %v, and written as %q %d", other, read, again, e)
		}
	}
	for _, e := range []api.Errno{api.OK, api.ErrRange, api.ErrOrder, api.ErrClash, api.ErrExists} {
		if found[e] < 10 || wrong < 1000 {
			t.Errorf("only these sheets have been read: %v, and %d with a wrong row", found, wrong)
		}
	}
}
