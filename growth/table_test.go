package growth_test

import (
	"slices"
	"strings"
	"testing"

	"homarus/api"
	"homarus/growth"
)

// table is that of the growth G.
const table = "base 50\nmost 1500\nstage 0 1000 1200 40 60\nstage 500 3000 3500 60 80\nend 2\n"

func sameGrowth(a, b api.Growth) bool {
	return a.Base == b.Base && a.Most == b.Most && slices.Equal(a.Stages, b.Stages)
}

// P1.6: the table of the example, and one with numbers below 0.
func TestTable(t *testing.T) {
	cold := changed(func(g *api.Growth) { g.Base = -7 })
	for text, g := range map[string]api.Growth{table: example(), strings.Replace(table, "50", "-7", 1): cold} {
		if s, e := growth.Write(g); s != text || e != api.OK {
			t.Errorf("Write returns %q %d, not %q", s, e, text)
		}
		if r, row, e := growth.Read(text); !sameGrowth(r, g) || row != 0 || e != api.OK {
			t.Errorf("Read returns %v %d %d, not %v", r, row, e, g)
		}
	}
}

// P1.6: the first row that is not as it has to be, otherwise Check's error.
func TestReadErrors(t *testing.T) {
	const head, stage = "base -5\nmost 9\n", "stage 0 1 1 0 0\n"
	for text, c := range map[string]struct {
		row  int
		want api.Errno
	}{
		head + stage + "end 1\n":            {0, api.OK},
		"":                                  {1, api.ErrForm},
		"\n":                                {1, api.ErrForm},
		"base 5":                            {1, api.ErrForm},
		"base\n":                            {1, api.ErrForm},
		"base \n":                           {1, api.ErrForm},
		"base 5 \n":                         {1, api.ErrForm},
		" base 5\n":                         {1, api.ErrForm},
		"base  5\n":                         {1, api.ErrForm},
		"base\t5\n":                         {1, api.ErrForm},
		"base 5\r\n":                        {1, api.ErrForm},
		"base 5 5\n":                        {1, api.ErrForm},
		"base -\n":                          {1, api.ErrForm},
		"base --5\n":                        {1, api.ErrForm},
		"base -0\n":                         {1, api.ErrForm},
		"base -05\n":                        {1, api.ErrForm},
		"base 05\n":                         {1, api.ErrForm},
		"base 00\n":                         {1, api.ErrForm},
		"base +5\n":                         {1, api.ErrForm},
		"base 5x\n":                         {1, api.ErrForm},
		"base 0x5\n":                        {1, api.ErrForm},
		"base 1_0\n":                        {1, api.ErrForm},
		"base 1234567\n":                    {1, api.ErrForm},
		"base -1234567\n":                   {1, api.ErrForm},
		"base 99999999999999999999999999\n": {1, api.ErrForm},
		"Base 5\n":                          {1, api.ErrForm},
		"most 9\nbase 5\n":                  {1, api.ErrForm},
		"stage 0 1 1 0 0\n":                 {1, api.ErrForm},
		"end 0\n":                           {1, api.ErrForm},
		"base 5\n":                          {2, api.ErrForm},
		"base 5\nbase 5\n":                  {2, api.ErrForm},
		"base 5\nend 0\n":                   {2, api.ErrForm},
		"base 5\nmost\n":                    {2, api.ErrForm},
		"base 5\nmost 9 9\n":                {2, api.ErrForm},
		"base 5\n" + stage:                  {2, api.ErrForm},
		head:                                {3, api.ErrForm},
		head + "end 0":                      {3, api.ErrForm},
		head + "end 1\n":                    {3, api.ErrForm},
		head + "end -1\n":                   {3, api.ErrForm},
		head + "end\n":                      {3, api.ErrForm},
		head + "most 9\n":                   {3, api.ErrForm},
		head + "\n":                         {3, api.ErrForm},
		head + "stage 0 1 1 0\nend 1\n":     {3, api.ErrForm},
		head + "stage 0 1 1 0 0 0\nend 1\n": {3, api.ErrForm},
		head + "stage  0 1 1 0 0\nend 1\n":  {3, api.ErrForm},
		head + "stage 0 1 1 0 -0\nend 1\n":  {3, api.ErrForm},
		head + "Stage 0 1 1 0 0\nend 1\n":   {3, api.ErrForm},
		head + stage:                        {4, api.ErrForm},
		head + stage + "end 0\n":            {4, api.ErrForm},
		head + stage + "end 2\n":            {4, api.ErrForm},
		head + stage + "end 1":              {4, api.ErrForm},
		head + stage + "end 1 1\n":          {4, api.ErrForm},
		head + stage + "base 5\nend 1\n":    {4, api.ErrForm},
		head + stage + "end 1\n\n":          {5, api.ErrForm},
		head + stage + "end 1\nx":           {5, api.ErrForm},
		head + stage + "end 1\nend 1\n":     {5, api.ErrForm},
		head + stage + stage + "stage 0\nstage 1\n": {5, api.ErrForm},
		head + "end 0\n": {0, api.ErrShort},
		head + strings.Repeat(stage, 7) + "end 7\n":   {0, api.ErrFull},
		head + stage + stage + "end 2\n":              {0, api.ErrOrder},
		head + "stage 0 0 1 0 0\nend 1\n":             {0, api.ErrRange},
		head + "stage -1 1 1 0 0\nend 1\n":            {0, api.ErrRange},
		head + "stage 1 1 1 0 0\nend 1\n":             {0, api.ErrOrder},
		head + "stage 0 2 1 0 0\nend 1\n":             {0, api.ErrOrder},
		head + "stage 0 1 999999 0 0\nend 1\n":        {0, api.ErrRange},
		"base 123456\nmost 9\nend 0\n":                {0, api.ErrRange},
		"base -123456\nmost 9\nend 0\n":               {0, api.ErrRange},
		"base 5\nmost -999999\nend 0\n":               {0, api.ErrRange},
		strings.Repeat("x", 1000):                     {1, api.ErrForm},
		strings.Repeat("x", 1001):                     {0, api.ErrLong},
		head + stage + "end 1\n" + long(1000-37):      {5, api.ErrForm},
		head + stage + "end 1\n" + long(1001-37):      {0, api.ErrLong},
		head + strings.Repeat(stage, 60) + "end 60\n": {0, api.ErrFull},
	} {
		g, row, e := growth.Read(text)
		if row != c.row || e != c.want {
			t.Errorf("%q: Read returns %d %d, not %d %d", text, row, e, c.row, c.want)
		}
		if e != api.OK && !sameGrowth(g, api.Growth{}) {
			t.Errorf("%q: Read returns the growth %v with an error", text, g)
		}
	}
}

// long returns so many bytes; what stands before them in the test has 37 bytes.
func long(n int) string { return strings.Repeat("x", n) }

// P1.13: random growths are read as they were written, and what is read of changed tables is written as it was.
func TestTablesThereAndBack(t *testing.T) {
	r := newRandom()
	read := 0
	for range 3000 {
		g := r.growth(2500, 100000, 300)
		g.Base = r.in(api.LeastWarm, api.MostWarm)
		text, e := growth.Write(g)
		back, row, f := growth.Read(text)
		if e != api.OK || f != api.OK || row != 0 || !sameGrowth(back, g) {
			t.Fatalf("%v is written as %q %d, and read as %v %d %d", g, text, e, back, row, f)
		}
		other := r.changedText(text)
		if back, _, f = growth.Read(other); f == api.OK {
			read++
			if text, e = growth.Write(back); text != other || e != api.OK {
				t.Fatalf("%q is read as %v, and written as %q %d", other, back, text, e)
			}
		}
	}
	if read < 100 {
		t.Errorf("of the changed tables only %d can be read", read)
	}
}
