package stock_test

import (
	"fmt"
	"reflect"
	"regexp"
	"slices"
	"strconv"
	"strings"
	"testing"

	"homarus/api"
	"homarus/stock"
)

// exampleSheet is that of the stock S.
const exampleSheet = "stock 3\nyear 0 10 5 5 0 1 2 1 2 2\nsign 1 0 0 2 100 100 0 0\nsign 3 0 2 2 5 5 500000 500000\nsign 2 1 1 2 70 70 0 0\nend 3\n"

// sameStock says whether two stocks are equal; a nil slice is an empty one.
func sameStock(a, b api.Stock) bool {
	return a.Classes == b.Classes && slices.Equal(a.Signs, b.Signs) && slices.EqualFunc(a.Years, b.Years, func(a, b api.Year) bool {
		return slices.Equal(a.Low, b.Low) && slices.Equal(a.Top, b.Top) && a.Dead == b.Dead && a.Young == b.Young
	})
}

// greatestStock has as many as can be of everything, and the greatest numbers.
func greatestStock() api.Stock {
	s := calm(10, 5, slices.Repeat([]api.Sign{surveyed(5, 9, 9, most, api.Mil, api.Mil)}, 12)...)
	for i := range s.Years {
		s.Years[i].Dead, s.Years[i].Young = one(most), one(most)
	}
	return s
}

// P5.6: sheets of the stock S, of little and of much.
func TestSheet(t *testing.T) {
	for text, s := range map[string]api.Stock{
		exampleSheet:                         example(),
		"stock 1\nend 0\n":                   calm(1, 0),
		"stock 1\nyear 0 0 0 0 0 0\nend 0\n": calm(1, 1),
		"stock 2\nyear 1 2 3 4 0 1 1 1\nyear 0 0 0 1000000000 0 1 0 1\nsign 3 2 0 1 0 0 0 1000000\nend 1\n": {Classes: 2, Years: []api.Year{
			{Low: []int{0, 1}, Top: []int{1, 1}, Dead: span(1, 2), Young: span(3, 4)}, {Low: []int{0, 1}, Top: []int{0, 1}, Young: span(0, most)},
		}, Signs: []api.Sign{surveyed(2, 0, 1, 0, 0, api.Mil)}},
		trueSheet(greatestStock()): greatestStock(),
	} {
		if x, e := stock.Write(s); x != text || e != api.OK {
			t.Errorf("Write returns %q %d, not %q", x, e, text)
		}
		if read, row, e := stock.Read(text); !sameStock(read, s) || row != 0 || e != api.OK {
			t.Errorf("Read returns %v %d %d, not %v", read, row, e, s)
		}
	}
}

// P5.6: the first row that is not as it has to be, otherwise the error of the stock.
func TestReadErrors(t *testing.T) {
	const head, year, sign = "stock 1\n", "year 0 0 0 0 0 0\n", "sign 1 0 0 0 0 0 0 0\n"
	for text, c := range map[string]struct {
		row  int
		want api.Errno
	}{
		"":                                    {1, api.ErrForm},
		"\n":                                  {1, api.ErrForm},
		"x":                                   {1, api.ErrForm},
		" ":                                   {1, api.ErrForm},
		"stock":                               {1, api.ErrForm},
		"stock\n":                             {1, api.ErrForm},
		"stock \n":                            {1, api.ErrForm},
		"stock 1":                             {1, api.ErrForm},
		"stock 1 1\n":                         {1, api.ErrForm},
		"stock 1 \n":                          {1, api.ErrForm},
		" stock 1\n":                          {1, api.ErrForm},
		"stock  1\n":                          {1, api.ErrForm},
		"stock\t1\n":                          {1, api.ErrForm},
		"stock 1\r\n":                         {1, api.ErrForm},
		"Stock 1\n":                           {1, api.ErrForm},
		"stocks 1\n":                          {1, api.ErrForm},
		"stock 01\n":                          {1, api.ErrForm},
		"stock -1\n":                          {1, api.ErrForm},
		"stock -0\n":                          {1, api.ErrForm},
		"stock +1\n":                          {1, api.ErrForm},
		"stock 0x1\n":                         {1, api.ErrForm},
		"stock 1_0\n":                         {1, api.ErrForm},
		"stock 1.0\n":                         {1, api.ErrForm},
		"stock x\n":                           {1, api.ErrForm},
		"stock 10000000000\n":                 {1, api.ErrForm},
		"stock 00000000001\n":                 {1, api.ErrForm},
		"stock 18446744073709551617\n":        {1, api.ErrForm},
		"stock 9999999999\n":                  {2, api.ErrForm},
		"end 0\n":                             {1, api.ErrForm},
		"end 0\n" + head:                      {1, api.ErrForm},
		year + head + "end 0\n":               {1, api.ErrForm},
		sign + head + "end 1\n":               {1, api.ErrForm},
		head:                                  {2, api.ErrForm},
		head + "\n":                           {2, api.ErrForm},
		head + "x\n":                          {2, api.ErrForm},
		head + head + "end 0\n":               {2, api.ErrForm},
		head + year + head + "end 0\n":        {3, api.ErrForm},
		head + sign + head + "end 0\n":        {3, api.ErrForm},
		head + "end 0\n" + head:               {3, api.ErrForm},
		head + "end 0":                        {2, api.ErrForm},
		head + "end\n":                        {2, api.ErrForm},
		head + "end 0 0\n":                    {2, api.ErrForm},
		head + "end 00\n":                     {2, api.ErrForm},
		head + "end -0\n":                     {2, api.ErrForm},
		head + "end 1\n":                      {2, api.ErrForm},
		head + "End 0\n":                      {2, api.ErrForm},
		head + "end 1\nend 0\n":               {2, api.ErrForm},
		head + "end 0\n\n":                    {3, api.ErrForm},
		head + "end 0\nx":                     {3, api.ErrForm},
		head + "end 0\nend 0\n":               {3, api.ErrForm},
		head + "end 0\n" + year:               {3, api.ErrForm},
		head + "end 0\n" + sign:               {3, api.ErrForm},
		head + "year 0 0 0 0 0 0":             {2, api.ErrForm},
		head + "year 0 0 0 0 0\n":             {2, api.ErrForm},
		head + "year 0 0 0 0 0 0 0\n":         {2, api.ErrForm},
		head + "year 0 0 0 0 0 0 0 0\n":       {2, api.ErrForm},
		head + "year 0 0 0 0\n":               {2, api.ErrForm},
		head + "year\n":                       {2, api.ErrForm},
		head + "Year 0 0 0 0 0 0\n":           {2, api.ErrForm},
		head + "years 0 0 0 0 0 0\n":          {2, api.ErrForm},
		head + "0 0 0 0 0 0\n":                {2, api.ErrForm},
		head + "year  0 0 0 0 0\n":            {2, api.ErrForm},
		head + "year 0 0 0 0 0 0 \n":          {2, api.ErrForm},
		head + "year 0 0 0 0 0 00\n":          {2, api.ErrForm},
		head + "year 0 0 0 0 0 -1\n":          {2, api.ErrForm},
		head + "year 0 0 0 0 0 x\n":           {2, api.ErrForm},
		head + "year 0 10000000000 0 0 0 0\n": {2, api.ErrForm},
		head + sign + year + "end 1\n":        {3, api.ErrForm},
		head + year + sign + year + "end 1\n": {4, api.ErrForm},
		head + year + sign + "year\nend 1\n":  {4, api.ErrForm},
		head + "sign 1 0 0 0 0 0 0\n":         {2, api.ErrForm},
		head + "sign 1 0 0 0 0 0 0 0 0\n":     {2, api.ErrForm},
		head + "sign\n":                       {2, api.ErrForm},
		head + "sign 1 0 0 0 0 0 0 0":         {2, api.ErrForm},
		head + "sign 1 0 0 0 0 0 0 -0\n":      {2, api.ErrForm},
		head + "sign 1 0 0 0 0 0 0 01\n":      {2, api.ErrForm},
		head + "sign 1 0 0 0 10000000000 0 0 0\n":      {2, api.ErrForm},
		head + "sign count 0 0 0 0 0 0 0\n":            {2, api.ErrForm},
		head + "Sign 1 0 0 0 0 0 0 0\n":                {2, api.ErrForm},
		head + sign:                                    {3, api.ErrForm},
		head + sign + "end 0\n":                        {3, api.ErrForm},
		head + sign + "end 2\n":                        {3, api.ErrForm},
		head + year + "end 1\n":                        {3, api.ErrForm},
		head + sign + sign + "end 1\n":                 {4, api.ErrForm},
		"stock 2\n" + year + "end 0\n":                 {2, api.ErrForm},
		"stock 0\n" + year + "end 0\n":                 {2, api.ErrForm},
		"stock 9999999999\n" + year + "end 0\n":        {2, api.ErrForm},
		exampleSheet + "x":                             {7, api.ErrForm},
		exampleSheet + "\n":                            {7, api.ErrForm},
		exampleSheet + exampleSheet:                    {7, api.ErrForm},
		strings.TrimSuffix(exampleSheet, "\n"):         {6, api.ErrForm},
		strings.Replace(exampleSheet, "k 3", "k 4", 1): {2, api.ErrForm},

		exampleSheet:                     {0, api.OK},
		head + "end 0\n":                 {0, api.OK},
		head + year + sign + "end 1\n":   {0, api.OK},
		"stock 0\nend 0\n":               {0, api.ErrRange},
		"stock 0\nyear 0 0 0 0\nend 0\n": {0, api.ErrRange},
		"stock 0\nyear 0 0 0 0\nend 1\n": {3, api.ErrForm},
		"stock 11\nend 0\n":              {0, api.ErrRange},
		"stock 11\nyear 0 0 0 0" + strings.Repeat(" 0", 22) + "\nend 0\n": {0, api.ErrRange},
		"stock 9999999999\nend 0\n":                                       {0, api.ErrRange},
		"stock 9999999999\n" + sign + "end 1\n":                           {0, api.ErrRange},
		head + strings.Repeat(year, 5) + "end 0\n":                        {0, api.OK},
		head + strings.Repeat(year, 6) + "end 0\n":                        {0, api.ErrFull},
		head + strings.Repeat(year, 160) + "end 0\n":                      {0, api.ErrFull},
		head + strings.Repeat(sign, 12) + "end 12\n":                      {0, api.OK},
		head + strings.Repeat(sign, 13) + "end 13\n":                      {0, api.ErrFull},
		head + strings.Repeat(sign, 13) + "end 12\n":                      {15, api.ErrForm},
		head + "year 0 0 0 0 1 0\nend 0\n":                                {0, api.ErrRange},
		head + "year 1 0 0 0 0 0\nend 0\n":                                {0, api.ErrOrder},
		head + "year 0 0 1 0 0 0\nend 0\n":                                {0, api.ErrOrder},
		head + "year 0 9999999999 0 0 0 0\nend 0\n":                       {0, api.ErrRange},
		head + "year 0 1000000000 0 1000000000 0 0\nend 0\n":              {0, api.OK},
		head + "sign 0 0 0 0 0 0 0 0\nend 1\n":                            {0, api.ErrKind},
		head + "sign 4 0 0 0 0 0 0 0\nend 1\n":                            {0, api.ErrKind},
		head + "sign 1 1 0 0 0 0 0 0\nend 1\n":                            {0, api.ErrRange},
		head + "sign 1 0 0 0 1 0 0 0\nend 1\n":                            {0, api.ErrOrder},
		head + "sign 2 0 0 0 0 1 0 0\nend 1\n":                            {0, api.ErrForm},
		head + "sign 1 0 0 0 0 0 0 1\nend 1\n":                            {0, api.ErrForm},
		head + "sign 3 0 0 0 1 1 1 1000001\nend 1\n":                      {0, api.ErrRange},
		"stock 2\nyear 0 0 0 0 1 0 1 1\nend 0\n":                          {0, api.ErrOrder},
		"stock 2\nyear 0 0 0 0 0 1 1 0\nend 0\n":                          {0, api.ErrOrder},
		"stock 2\nsign 1 0 1 0 0 0 0 0\nend 1\n":                          {0, api.ErrOrder},
		strings.Repeat("x", 3000):                                         {1, api.ErrForm},
		strings.Repeat("x", 3001):                                         {0, api.ErrLong},
		strings.Repeat("\n", 3001):                                        {0, api.ErrLong},
		exampleSheet + strings.Repeat("x", 3000-len(exampleSheet)):        {7, api.ErrForm},
		exampleSheet + strings.Repeat("x", 3001-len(exampleSheet)):        {0, api.ErrLong},
		"stock 1495\nyear" + strings.Repeat(" 0", 1491) + "\n":            {2, api.ErrForm},
		"stock 744\nyear" + strings.Repeat(" 0", 1492) + "\n":             {3, api.ErrForm},
		"stock 743\nyear" + strings.Repeat(" 0", 1490) + "\n\x00\n":       {3, api.ErrForm},
	} {
		s, row, e := stock.Read(text)
		if row != c.row || e != c.want {
			t.Errorf("%q: Read returns %d %d, not %d %d", text, row, e, c.row, c.want)
		}
		if e != api.OK && !reflect.ValueOf(s).IsZero() {
			t.Errorf("%q: Read returns %v with an error", text, s)
		}
	}
}

// trueSheet returns the sheet of a stock, be it valid or not.
func trueSheet(s api.Stock) string {
	text := fmt.Sprintf("stock %d\n", s.Classes)
	for _, y := range s.Years {
		text += fmt.Sprintf("year %d %d %d %d", y.Dead.Lo, y.Dead.Hi, y.Young.Lo, y.Young.Hi)
		for _, c := range append(slices.Clone(y.Low), y.Top...) {
			text += fmt.Sprintf(" %d", c)
		}
		text += "\n"
	}
	for _, x := range s.Signs {
		text += fmt.Sprintf("sign %d %d %d %d %d %d %d %d\n", x.Kind, x.Year, x.From, x.To, x.Number.Lo, x.Number.Hi, x.Part.Lo, x.Part.Hi)
	}
	return text + fmt.Sprintf("end %d\n", len(s.Signs))
}

// trueRow returns the number of the row of a sheet for which it is ErrForm by P5.6, 0 if there is none.
func trueRow(text string) int {
	const number = ` (0|[1-9][0-9]{0,9})`
	first, year := regexp.MustCompile(`^stock`+number+`\n$`), regexp.MustCompile(`^year(`+number+`)*\n$`)
	sign, end := regexp.MustCompile(`^sign(`+number+`){8}\n$`), regexp.MustCompile(`^end`+number+`\n$`)
	classes, signs := 0, 0
	rows := strings.SplitAfter(text, "\n")
	for i, row := range rows {
		switch {
		case i == 0 && first.MatchString(row):
			classes, _ = strconv.Atoi(first.FindStringSubmatch(row)[1])
		case i > 0 && signs == 0 && year.MatchString(row) && strings.Count(row, " ") == 4+2*classes:
		case i > 0 && sign.MatchString(row):
			signs++
		case i > 0 && end.MatchString(row) && end.FindStringSubmatch(row)[1] == strconv.Itoa(signs):
			if rows[i+1] != "" {
				return i + 2
			}
			return 0
		default:
			return i + 1
		}
	}
	return len(rows) + 1
}

// P5.6, P5.15: a sheet is read as its stock, and what is read is written as it was; otherwise the first row that is wrong is named.
func TestSheetsThereAndBack(t *testing.T) {
	r := newRandom()
	found, wrong := map[api.Errno]int{}, 0
	for range 6000 {
		s := r.stock(4, 3, 4, r.in(0, 100))
		text, e := stock.Write(s)
		if want := trueSheet(s); text != want || e != api.OK {
			t.Fatalf("%v is written as %q %d, not %q", s, text, e, want)
		}
		if read, row, e := stock.Read(text); !sameStock(read, s) || row != 0 || e != api.OK {
			t.Fatalf("%q is read as %v %d %d", text, read, row, e)
		}
		other := r.changedText(text)
		read, row, e := stock.Read(other)
		if want := trueRow(other); row != want || want > 0 && e != api.ErrForm || e != api.OK && !sameStock(read, api.Stock{}) {
			t.Fatalf("%q is read as %v %d %d, but the row %d is wrong", other, read, row, e, want)
		}
		if row > 0 {
			wrong++
			continue
		}
		found[e]++
		if e != api.OK {
			continue
		}
		if again, e := stock.Write(read); again != other || e != api.OK {
			t.Fatalf("%q is read as %v, and written as %q %d", other, read, again, e)
		}
	}
	for _, e := range []api.Errno{api.OK, api.ErrRange, api.ErrOrder, api.ErrForm, api.ErrKind} {
		if found[e] < 10 || wrong < 1000 {
			t.Errorf("only these sheets have been read: %v, and %d with a wrong row", found, wrong)
		}
	}
}
