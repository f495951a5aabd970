package ground_test

import (
	"slices"
	"strings"
	"testing"

	"homarus/api"
	"homarus/ground"
)

// examplePaper is that of the chapter's examples.
const examplePaper = "set 0 12 6 0\nhaul 0 13\nset 2 55 6 1\nseen 2 56 8 1\ncut 2 56\n"

// P2.5: papers of the example, of no report, and of reports in another order, and twice.
func TestPaper(t *testing.T) {
	b, f := exampleBay(), exampleFleet()
	for text, l := range map[string][]api.Report{
		examplePaper:                      exampleReports(),
		"":                                nil,
		"haul 1 0\n":                      {hauled(1, 0), hauled(1, 0)},
		"seen 3 36499 9 1\ncut 3 36499\n": {cut(3, 36499), seen(3, 36499, 9, 1)},
		"haul 0 7\nset 0 7 0 0\nseen 0 7 9 1\ncut 0 7\n":   {cut(0, 7), seen(0, 7, 9, 1), set(0, 7, 0, 0), hauled(0, 7)},
		"cut 0 9\ncut 0 10\ncut 0 100\ncut 1 2\ncut 3 1\n": {cut(3, 1), cut(1, 2), cut(0, 100), cut(0, 10), cut(0, 9)},
	} {
		book, _ := ground.Book(b, f, l)
		if s, e := ground.Write(b, f, l); s != text || e != api.OK {
			t.Errorf("Write returns %q %d, not %q", s, e, text)
		}
		if r, row, e := ground.Read(b, f, text); !slices.Equal(r, book) || row != 0 || e != api.OK {
			t.Errorf("Read returns %v %d %d, not %v", r, row, e, book)
		}
	}
	want := []api.Report{hauled(0, 3), set(0, 5, 1, 1), cut(1, 2)}
	if r, row, e := ground.Read(b, f, "cut 1 2\nset 0 5 1 1\nhaul 0 3\ncut 1 2\nset 0 5 1 1\n"); !slices.Equal(r, want) || row != 0 || e != api.OK {
		t.Errorf("Read returns %v %d %d, not %v", r, row, e, want)
	}
}

// P2.5: a paper of as many reports as there may be, all of them as long as they may be.
func TestLongestPaper(t *testing.T) {
	b, f := largeBay(), largestFleet()
	var l []api.Report
	for i := range api.MaxReports {
		l = append(l, seen(39, 36300+i, 199, 19))
	}
	text, e := ground.Write(b, f, l)
	if want := strings.Repeat("seen 39 36300 199 19\n", 200); e != api.OK || len(text) != len(want) {
		t.Errorf("Write returns %d bytes, %d", len(text), e)
	}
	if r, row, e := ground.Read(b, f, text); !slices.Equal(r, l) || row != 0 || e != api.OK {
		t.Errorf("Read returns %v %d %d", r, row, e)
	}
}

// P2.5: the first row that is not as it has to be, otherwise the error of the reports.
func TestReadErrors(t *testing.T) {
	for text, c := range map[string]struct {
		row  int
		want api.Errno
	}{
		"\n":                                     {1, api.ErrForm},
		" \n":                                    {1, api.ErrForm},
		"x":                                      {1, api.ErrForm},
		"haul":                                   {1, api.ErrForm},
		"haul\n":                                 {1, api.ErrForm},
		"haul 0\n":                               {1, api.ErrForm},
		"haul 0 5":                               {1, api.ErrForm},
		"haul 0 5 0\n":                           {1, api.ErrForm},
		"haul 0 5 0 0\n":                         {1, api.ErrForm},
		"cut 0\n":                                {1, api.ErrForm},
		"cut 0 5 0 0\n":                          {1, api.ErrForm},
		"set 0 5\n":                              {1, api.ErrForm},
		"set 0 5 0\n":                            {1, api.ErrForm},
		"set 0 5 0 0 0\n":                        {1, api.ErrForm},
		"seen 0 5\n":                             {1, api.ErrForm},
		"seen 0 5 0 0 0\n":                       {1, api.ErrForm},
		"Haul 0 5\n":                             {1, api.ErrForm},
		"hauls 0 5\n":                            {1, api.ErrForm},
		"1 0 5\n":                                {1, api.ErrForm},
		" 0 5\n":                                 {1, api.ErrForm},
		"0 5\n":                                  {1, api.ErrForm},
		" haul 0 5\n":                            {1, api.ErrForm},
		"haul 0 5 \n":                            {1, api.ErrForm},
		"haul  0 5\n":                            {1, api.ErrForm},
		"haul 0  5\n":                            {1, api.ErrForm},
		"haul\t0 5\n":                            {1, api.ErrForm},
		"haul 0 5\r\n":                           {1, api.ErrForm},
		"haul 00 5\n":                            {1, api.ErrForm},
		"haul 0 05\n":                            {1, api.ErrForm},
		"haul 0 +5\n":                            {1, api.ErrForm},
		"haul 0 -5\n":                            {1, api.ErrForm},
		"haul -0 5\n":                            {1, api.ErrForm},
		"haul 0 -\n":                             {1, api.ErrForm},
		"haul 0 x\n":                             {1, api.ErrForm},
		"haul 0 5x\n":                            {1, api.ErrForm},
		"haul 0 0x5\n":                           {1, api.ErrForm},
		"haul 0 1_0\n":                           {1, api.ErrForm},
		"haul 0 5.0\n":                           {1, api.ErrForm},
		"haul 0 1000000\n":                       {1, api.ErrForm},
		"haul 0 0000005\n":                       {1, api.ErrForm},
		"haul 1000000 5\n":                       {1, api.ErrForm},
		"set 0 5 1000000 0\n":                    {1, api.ErrForm},
		"set 0 5 0 01\n":                         {1, api.ErrForm},
		"haul 0 18446744073709551616":            {1, api.ErrForm},
		"haul 0 18446744073709551616\n":          {1, api.ErrForm},
		"haul 0 999999\n":                        {0, api.ErrRange},
		"haul 999999 5\n":                        {0, api.ErrMissing},
		"set 0 5 999999 0\n":                     {0, api.ErrRange},
		"seen 0 5 0 999999\n":                    {0, api.ErrRange},
		"haul 0 36500\n":                         {0, api.ErrRange},
		"haul 4 0\n":                             {0, api.ErrMissing},
		"set 0 5 10 0\n":                         {0, api.ErrRange},
		"set 0 5 0 0\nset 0 5 1 0\n":             {0, api.ErrClash},
		"haul 4 0\nhaul 0 36500\n":               {0, api.ErrMissing},
		"haul 0 36500\nhaul 4 0\n":               {0, api.ErrRange},
		"haul 4 0\nhaul 0 5\nhaul\n":             {3, api.ErrForm},
		"haul 4 0\nhaul\nhaul\n":                 {2, api.ErrForm},
		"haul 0 5\n\nhaul 0 6\n":                 {2, api.ErrForm},
		examplePaper + "\n":                      {6, api.ErrForm},
		examplePaper + "x":                       {6, api.ErrForm},
		examplePaper + "haul 0 5":                {6, api.ErrForm},
		strings.TrimSuffix(examplePaper, "\n"):   {5, api.ErrForm},
		strings.Repeat("haul 0 5\n", 200):        {0, api.OK},
		strings.Repeat("haul 0 5\n", 201):        {0, api.ErrFull},
		strings.Repeat("haul 0 5\n", 201) + "x":  {202, api.ErrForm},
		strings.Repeat("haul 4 5\n", 201):        {0, api.ErrFull},
		strings.Repeat("x", 6000):                {1, api.ErrForm},
		strings.Repeat("x", 6001):                {0, api.ErrLong},
		strings.Repeat("cut 0 10\n", 667)[:6000]: {667, api.ErrForm},
		strings.Repeat("haul 0 10\n", 600):       {0, api.ErrFull},
		strings.Repeat("haul 0 10\n", 600) + "\n": {0, api.ErrLong},
	} {
		l, row, e := ground.Read(exampleBay(), exampleFleet(), text)
		if row != c.row || e != c.want {
			t.Errorf("%q: Read returns %d %d, not %d %d", text, row, e, c.row, c.want)
		}
		if e != api.OK && len(l) > 0 {
			t.Errorf("%q: Read returns %v with an error", text, l)
		}
	}
}
