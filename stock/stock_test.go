package stock_test

import (
	"reflect"
	"slices"
	"strings"
	"testing"

	"homarus/api"
	"homarus/stock"
)

func span(low, high int) api.Span { return api.Span{Lo: low, Hi: high} }

func one(n int) api.Span { return span(n, n) }

const (
	most   = api.MaxHerd
	count  = api.SignCount
	tags   = api.SignTags
	survey = api.SignSurvey
)

// counted, tagged and surveyed are signs of the classes from one to another one in a year.
func counted(year, from, to, low, high int) api.Sign {
	return api.Sign{Kind: count, Year: year, From: from, To: to, Number: span(low, high)}
}

func tagged(year, from, to, n int) api.Sign {
	return api.Sign{Kind: tags, Year: year, From: from, To: to, Number: one(n)}
}

func surveyed(year, from, to, n, low, high int) api.Sign {
	return api.Sign{Kind: survey, Year: year, From: from, To: to, Number: one(n), Part: span(low, high)}
}

// example is the stock S of the chapter's examples.
func example() api.Stock {
	return api.Stock{
		Classes: 3,
		Years:   []api.Year{{Low: []int{0, 1, 2}, Top: []int{1, 2, 2}, Dead: span(0, 10), Young: one(5)}},
		Signs:   []api.Sign{counted(0, 0, 2, 100, 100), surveyed(0, 2, 2, 5, 500000, 500000), tagged(1, 1, 2, 70)},
	}
}

// changed returns the stock S with a change.
func changed(change func(s *api.Stock)) api.Stock {
	s := example()
	change(&s)
	return s
}

// calmYear is a year in which no animal of so many classes dies, grows or settles.
func calmYear(classes int) api.Year {
	var y api.Year
	for c := range classes {
		y.Low, y.Top = append(y.Low, c), append(y.Top, c)
	}
	return y
}

// calm is a stock of so many classes and calm years, with some signs.
func calm(classes, years int, signs ...api.Sign) api.Stock {
	s := api.Stock{Classes: classes, Signs: signs}
	for range years {
		s.Years = append(s.Years, calmYear(classes))
	}
	return s
}

// stockErrors are changes of the stock S, and the first error that it has then.
func stockErrors() map[string]struct {
	change func(s *api.Stock)
	want   api.Errno
} {
	return map[string]struct {
		change func(s *api.Stock)
		want   api.Errno
	}{
		"S":                          {func(s *api.Stock) {}, api.OK},
		"nothing at all":             {func(s *api.Stock) { *s = api.Stock{} }, api.ErrRange},
		"-1 classes":                 {func(s *api.Stock) { s.Classes = -1 }, api.ErrRange},
		"0 classes":                  {func(s *api.Stock) { s.Classes = 0 }, api.ErrRange},
		"1 class":                    {func(s *api.Stock) { *s = calm(1, 1) }, api.OK},
		"10 classes":                 {func(s *api.Stock) { *s = calm(10, 1) }, api.OK},
		"11 classes":                 {func(s *api.Stock) { *s = calm(11, 1) }, api.ErrRange},
		"11 classes of S":            {func(s *api.Stock) { s.Classes = 11 }, api.ErrRange},
		"11 classes, 6 years":        {func(s *api.Stock) { *s = calm(11, 6) }, api.ErrRange},
		"2 classes of S":             {func(s *api.Stock) { s.Classes = 2 }, api.ErrForm},
		"4 classes of S":             {func(s *api.Stock) { s.Classes = 4 }, api.ErrForm},
		"no year":                    {func(s *api.Stock) { *s = calm(3, 0) }, api.OK},
		"5 years":                    {func(s *api.Stock) { *s = calm(3, 5) }, api.OK},
		"6 years":                    {func(s *api.Stock) { *s = calm(3, 6) }, api.ErrFull},
		"6 years, one is wrong":      {func(s *api.Stock) { *s = calm(3, 6); s.Years[0].Low = nil }, api.ErrFull},
		"6 years, a sign is wrong":   {func(s *api.Stock) { s.Years = calm(3, 6).Years; s.Signs[0].Kind = 0 }, api.ErrFull},
		"a Low less":                 {func(s *api.Stock) { s.Years[0].Low = s.Years[0].Low[:2] }, api.ErrForm},
		"a Low more":                 {func(s *api.Stock) { s.Years[0].Low = append(s.Years[0].Low, 2) }, api.ErrForm},
		"no Low":                     {func(s *api.Stock) { s.Years[0].Low = nil }, api.ErrForm},
		"a Top less":                 {func(s *api.Stock) { s.Years[0].Top = s.Years[0].Top[:2] }, api.ErrForm},
		"a Top more":                 {func(s *api.Stock) { s.Years[0].Top = append(s.Years[0].Top, 2) }, api.ErrForm},
		"no Top":                     {func(s *api.Stock) { s.Years[0].Top = nil }, api.ErrForm},
		"a Top less, Low -1":         {func(s *api.Stock) { s.Years[0].Top, s.Years[0].Low[0] = s.Years[0].Top[:2], -1 }, api.ErrForm},
		"Low -1":                     {func(s *api.Stock) { s.Years[0].Low[0] = -1 }, api.ErrRange},
		"Low 1 0 2":                  {func(s *api.Stock) { s.Years[0].Low = []int{1, 0, 2} }, api.ErrOrder},
		"Low 1 1 2":                  {func(s *api.Stock) { s.Years[0].Low = []int{1, 1, 2} }, api.OK},
		"Low 2 1 2":                  {func(s *api.Stock) { s.Years[0].Low = []int{2, 1, 2} }, api.ErrOrder},
		"Low 2 1 2, Top 2 1 2":       {func(s *api.Stock) { s.Years[0].Low, s.Years[0].Top = []int{2, 1, 2}, []int{2, 1, 2} }, api.OK},
		"Low 0 1 1":                  {func(s *api.Stock) { s.Years[0].Low[2] = 1 }, api.ErrOrder},
		"Low 0 1 3":                  {func(s *api.Stock) { s.Years[0].Low[2] = 3 }, api.ErrRange},
		"Low 0 1 3, Top 1 2 3":       {func(s *api.Stock) { s.Years[0].Low[2], s.Years[0].Top[2] = 3, 3 }, api.ErrRange},
		"Low 0 2 2":                  {func(s *api.Stock) { s.Years[0].Low[1] = 2 }, api.OK},
		"Top -1":                     {func(s *api.Stock) { s.Years[0].Top[0] = -1 }, api.ErrRange},
		"Top 3":                      {func(s *api.Stock) { s.Years[0].Top[0] = 3 }, api.ErrRange},
		"Top 2 2 2":                  {func(s *api.Stock) { s.Years[0].Top[0] = 2 }, api.OK},
		"Top 0 2 2":                  {func(s *api.Stock) { s.Years[0].Top[0] = 0 }, api.OK},
		"Top 2 1 2":                  {func(s *api.Stock) { s.Years[0].Top = []int{2, 1, 2} }, api.OK},
		"Top 1 0 2":                  {func(s *api.Stock) { s.Years[0].Top[1] = 0 }, api.ErrOrder},
		"Low 1 0 2, Top 1 2 3":       {func(s *api.Stock) { s.Years[0].Low[1], s.Years[0].Top[2] = 0, 3 }, api.ErrOrder},
		"Low 0 1 1, Top 3 2 2":       {func(s *api.Stock) { s.Years[0].Low[2], s.Years[0].Top[0] = 1, 3 }, api.ErrRange},
		"Low 1 0 2, Top 1 3 2":       {func(s *api.Stock) { s.Years[0].Low[1], s.Years[0].Top[1] = 0, 3 }, api.ErrRange},
		"Low, and Dead":              {func(s *api.Stock) { s.Years[0].Low[2], s.Years[0].Dead.Lo = 1, -1 }, api.ErrOrder},
		"Dead -1":                    {func(s *api.Stock) { s.Years[0].Dead.Lo = -1 }, api.ErrRange},
		"Dead 10..10":                {func(s *api.Stock) { s.Years[0].Dead.Lo = 10 }, api.OK},
		"Dead 11..10":                {func(s *api.Stock) { s.Years[0].Dead.Lo = 11 }, api.ErrOrder},
		"Dead at most":               {func(s *api.Stock) { s.Years[0].Dead = one(most) }, api.OK},
		"Dead above":                 {func(s *api.Stock) { s.Years[0].Dead.Hi = most + 1 }, api.ErrRange},
		"Dead both above":            {func(s *api.Stock) { s.Years[0].Dead = one(most + 1) }, api.ErrRange},
		"Dead 3..-1":                 {func(s *api.Stock) { s.Years[0].Dead = span(3, -1) }, api.ErrRange},
		"Dead, then Young":           {func(s *api.Stock) { s.Years[0].Dead, s.Years[0].Young.Lo = span(11, 10), -1 }, api.ErrOrder},
		"Young -1":                   {func(s *api.Stock) { s.Years[0].Young.Lo = -1 }, api.ErrRange},
		"Young 6..5":                 {func(s *api.Stock) { s.Years[0].Young.Lo = 6 }, api.ErrOrder},
		"Young at most":              {func(s *api.Stock) { s.Years[0].Young = one(most) }, api.OK},
		"Young above":                {func(s *api.Stock) { s.Years[0].Young.Hi = most + 1 }, api.ErrRange},
		"Young, then the next year":  {func(s *api.Stock) { *s = calm(3, 2); s.Years[0].Young.Lo = 6; s.Years[1].Low = nil }, api.ErrOrder},
		"the next year":              {func(s *api.Stock) { *s = calm(3, 2); s.Years[1].Young.Lo = 6 }, api.ErrOrder},
		"12 signs":                   {func(s *api.Stock) { s.Signs = slices.Repeat(s.Signs, 4) }, api.OK},
		"13 signs":                   {func(s *api.Stock) { s.Signs = append(slices.Repeat(s.Signs, 4), s.Signs[0]) }, api.ErrFull},
		"13 signs, one is wrong":     {func(s *api.Stock) { s.Signs = make([]api.Sign, 13) }, api.ErrFull},
		"13 signs, Young":            {func(s *api.Stock) { s.Signs, s.Years[0].Young.Lo = make([]api.Sign, 13), 6 }, api.ErrOrder},
		"no sign":                    {func(s *api.Stock) { s.Signs = nil }, api.OK},
		"Kind 0":                     {func(s *api.Stock) { s.Signs[0].Kind = 0 }, api.ErrKind},
		"Kind -1":                    {func(s *api.Stock) { s.Signs[0].Kind = -1 }, api.ErrKind},
		"Kind 4":                     {func(s *api.Stock) { s.Signs[0].Kind = 4 }, api.ErrKind},
		"Kind 4, Year -1":            {func(s *api.Stock) { s.Signs[0].Kind, s.Signs[0].Year = 4, -1 }, api.ErrKind},
		"the last Kind":              {func(s *api.Stock) { s.Signs[2].Kind = 4 }, api.ErrKind},
		"Year -1":                    {func(s *api.Stock) { s.Signs[0].Year = -1 }, api.ErrRange},
		"Year 1":                     {func(s *api.Stock) { s.Signs[0].Year = 1 }, api.OK},
		"Year 2":                     {func(s *api.Stock) { s.Signs[0].Year = 2 }, api.ErrRange},
		"Year 2, From behind To":     {func(s *api.Stock) { s.Signs[1].Year, s.Signs[1].To = 2, 1 }, api.ErrRange},
		"From -1":                    {func(s *api.Stock) { s.Signs[0].From = -1 }, api.ErrRange},
		"From 3":                     {func(s *api.Stock) { s.Signs[0].From = 3 }, api.ErrRange},
		"From 2":                     {func(s *api.Stock) { s.Signs[0].From = 2 }, api.OK},
		"From 2, To 1":               {func(s *api.Stock) { s.Signs[0].From, s.Signs[0].To = 2, 1 }, api.ErrOrder},
		"From 2, To 1, Number":       {func(s *api.Stock) { s.Signs[2].From, s.Signs[2].To, s.Signs[2].Number.Hi = 2, 1, -1 }, api.ErrOrder},
		"To 0":                       {func(s *api.Stock) { s.Signs[0].To = 0 }, api.OK},
		"To -1":                      {func(s *api.Stock) { s.Signs[0].To = -1 }, api.ErrRange},
		"To 3":                       {func(s *api.Stock) { s.Signs[0].To = 3 }, api.ErrRange},
		"a count of 0..most":         {func(s *api.Stock) { s.Signs[0].Number = span(0, most) }, api.OK},
		"a count of -1":              {func(s *api.Stock) { s.Signs[0].Number.Lo = -1 }, api.ErrRange},
		"a count above":              {func(s *api.Stock) { s.Signs[0].Number.Hi = most + 1 }, api.ErrRange},
		"a count of 101..100":        {func(s *api.Stock) { s.Signs[0].Number.Lo = 101 }, api.ErrOrder},
		"a count with Part":          {func(s *api.Stock) { s.Signs[0].Part = one(1) }, api.ErrForm},
		"a count with Part 0..1":     {func(s *api.Stock) { s.Signs[0].Part.Hi = 1 }, api.ErrForm},
		"a count with Part -1..0":    {func(s *api.Stock) { s.Signs[0].Part.Lo = -1 }, api.ErrForm},
		"a count with Part 1..0":     {func(s *api.Stock) { s.Signs[0].Part.Lo = 1 }, api.ErrForm},
		"101..100, Part 1..1":        {func(s *api.Stock) { s.Signs[0].Number.Lo, s.Signs[0].Part = 101, one(1) }, api.ErrOrder},
		"tags 0":                     {func(s *api.Stock) { s.Signs[2].Number = one(0) }, api.OK},
		"tags at most":               {func(s *api.Stock) { s.Signs[2].Number = one(most) }, api.OK},
		"tags above":                 {func(s *api.Stock) { s.Signs[2].Number = one(most + 1) }, api.ErrRange},
		"tags 69..70":                {func(s *api.Stock) { s.Signs[2].Number.Lo = 69 }, api.ErrForm},
		"tags 71..70":                {func(s *api.Stock) { s.Signs[2].Number.Lo = 71 }, api.ErrOrder},
		"tags -1..70":                {func(s *api.Stock) { s.Signs[2].Number.Lo = -1 }, api.ErrRange},
		"tags with Part":             {func(s *api.Stock) { s.Signs[2].Part.Hi = 1 }, api.ErrForm},
		"tags with Part above":       {func(s *api.Stock) { s.Signs[2].Part.Hi = api.Mil + 1 }, api.ErrForm},
		"a survey of 0":              {func(s *api.Stock) { s.Signs[1].Number = one(0) }, api.OK},
		"a survey of 4..5":           {func(s *api.Stock) { s.Signs[1].Number.Lo = 4 }, api.ErrForm},
		"a survey of 6..5":           {func(s *api.Stock) { s.Signs[1].Number.Lo = 6 }, api.ErrOrder},
		"a survey of most":           {func(s *api.Stock) { s.Signs[1].Number = one(most) }, api.OK},
		"a survey above":             {func(s *api.Stock) { s.Signs[1].Number = one(most + 1) }, api.ErrRange},
		"a survey of 4..5, Part":     {func(s *api.Stock) { s.Signs[1].Number.Lo, s.Signs[1].Part.Lo = 4, -1 }, api.ErrForm},
		"a survey's Part 0..0":       {func(s *api.Stock) { s.Signs[1].Part = one(0) }, api.OK},
		"a survey's Part -1":         {func(s *api.Stock) { s.Signs[1].Part.Lo = -1 }, api.ErrRange},
		"a survey's Part 0..Mil":     {func(s *api.Stock) { s.Signs[1].Part = span(0, api.Mil) }, api.OK},
		"a survey's Part above":      {func(s *api.Stock) { s.Signs[1].Part.Hi = api.Mil + 1 }, api.ErrRange},
		"a survey's Part backwards":  {func(s *api.Stock) { s.Signs[1].Part.Lo = 500001 }, api.ErrOrder},
		"Part, then the next Kind":   {func(s *api.Stock) { s.Signs[1].Part.Lo, s.Signs[2].Kind = 500001, 0 }, api.ErrOrder},
		"Kind, then an earlier Part": {func(s *api.Stock) { s.Signs[0].Part.Lo, s.Signs[2].Kind = 1, 0 }, api.ErrForm},
		"a year, and a sign":         {func(s *api.Stock) { s.Years[0].Young.Lo, s.Signs[0].Kind = 6, 0 }, api.ErrOrder},
		"a stock whose set is empty": {func(s *api.Stock) { s.Signs[0].Number = one(0) }, api.OK},
		"the last year of a sign":    {func(s *api.Stock) { *s = calm(2, 5, counted(5, 0, 1, 3, 4)) }, api.OK},
		"behind the last year":       {func(s *api.Stock) { *s = calm(2, 5, counted(6, 0, 1, 3, 4)) }, api.ErrRange},
		"a sign of class 9":          {func(s *api.Stock) { *s = calm(10, 0, tagged(0, 9, 9, 4)) }, api.OK},
		"a sign of class 10":         {func(s *api.Stock) { *s = calm(10, 0, tagged(0, 9, 10, 4)) }, api.ErrRange},
		"Low and Top of class 10":    {func(s *api.Stock) { *s = calm(10, 1); s.Years[0].Low[9], s.Years[0].Top[9] = 10, 10 }, api.ErrRange},
		"Low and Top are 9 each time": {func(s *api.Stock) {
			*s = calm(10, 1)
			s.Years[0].Low = slices.Repeat([]int{9}, 10)
			s.Years[0].Top = s.Years[0].Low
		}, api.OK},
	}
}

// P5.1: each error of a stock, at both ends of each bound, and which one comes first (R1); P5.2 to P5.6: all functions return it before any other one.
func TestStockErrors(t *testing.T) {
	for name, c := range stockErrors() {
		s := changed(c.change)
		if e := stock.Check(s); e != c.want {
			t.Errorf("%s: Check returns %d, not %d", name, e, c.want)
		}
		wrong := call{s: s, history: [][]int{{-1}}, year: -1, from: 5, to: -1, r: api.Rule{Class: -1}}
		for function, r := range wrong.ofStock() {
			if c.want != api.OK && r.e != c.want {
				t.Errorf("%s: %s returns %d, not %d", name, function, r.e, c.want)
			}
		}
		text := trueSheet(s)
		if strings.Contains(text, "-") || c.want != api.OK && trueRow(text) > 0 {
			continue // no sheet has such numbers, or so many of them
		}
		if read, row, e := stock.Read(text); e != c.want || row != 0 || e == api.OK && !sameStock(read, s) || e != api.OK && !reflect.ValueOf(read).IsZero() {
			t.Errorf("%s: Read returns %v %d %d, not %d", name, read, row, e, c.want)
		}
	}
}

// The examples of the chapter.
func TestExamples(t *testing.T) {
	s := example()
	for _, c := range []struct {
		year, from, to int
		want           api.Span
	}{{0, 2, 2, span(9, 11)}, {0, 0, 1, span(89, 91)}, {0, 1, 2, span(9, 100)}, {1, 0, 0, span(5, 35)}, {1, 1, 2, span(70, 100)}, {1, 2, 2, span(0, 100)}, {1, 0, 2, span(95, 105)}} {
		if x, e := stock.Range(s, c.year, c.from, c.to); x != c.want || e != api.OK {
			t.Errorf("Range(%d, %d to %d) returns %v %d, not %v", c.year, c.from, c.to, x, e, c.want)
		}
	}
	want := [][]api.Span{{span(0, 91), span(0, 91), span(9, 11)}, {span(5, 35), span(0, 100), span(0, 100)}}
	if l, e := stock.Bounds(s); !reflect.DeepEqual(l, want) || e != api.OK {
		t.Errorf("Bounds returns %v %d, not %v", l, e, want)
	}
	for _, c := range []struct {
		history [][]int
		want    bool
	}{{[][]int{{50, 40, 10}, {15, 60, 20}}, true}, {[][]int{{50, 40, 10}, {40, 40, 20}}, false}} {
		if ok, e := stock.Allowed(s, c.history); ok != c.want || e != api.OK {
			t.Errorf("Allowed(%v) returns %t %d", c.history, ok, e)
		}
	}
	if l, e := stock.Conflict(s); l != nil || e != api.ErrMissing {
		t.Error("Conflict returns", l, e)
	}
	s.Signs = append(s.Signs, counted(1, 0, 2, 50, 60))
	if l, e := stock.Conflict(s); !slices.Equal(l, []int{0, 3}) || e != api.OK {
		t.Error("Conflict returns", l, e)
	}
}

// P5.2: a history has to have the form of the stock, then its numbers have to be numbers of animals, then it is in the set or not.
func TestHistoryErrors(t *testing.T) {
	for name, c := range map[string]struct {
		history [][]int
		allowed bool
		want    api.Errno
	}{
		"in the set":                     {[][]int{{50, 40, 10}, {15, 60, 20}}, true, api.OK},
		"not in it":                      {[][]int{{50, 40, 10}, {16, 80, 10}}, false, api.OK},
		"none":                           {nil, false, api.ErrForm},
		"a row less":                     {[][]int{{50, 40, 10}}, false, api.ErrForm},
		"a row more":                     {[][]int{{50, 40, 10}, {15, 60, 20}, {15, 60, 20}}, false, api.ErrForm},
		"a number less":                  {[][]int{{50, 40, 10}, {15, 60}}, false, api.ErrForm},
		"a number more":                  {[][]int{{50, 40, 10, 0}, {15, 60, 20}}, false, api.ErrForm},
		"an empty row":                   {[][]int{{50, 40, 10}, {}}, false, api.ErrForm},
		"a nil row":                      {[][]int{nil, {15, 60, 20}}, false, api.ErrForm},
		"-1":                             {[][]int{{50, 40, 10}, {15, 60, -1}}, false, api.ErrRange},
		"0":                              {[][]int{{0, 90, 10}, {5, 90, 10}}, true, api.OK},
		"most":                           {[][]int{{50, 40, 10}, {15, 60, most}}, false, api.OK},
		"more than most":                 {[][]int{{50, 40, most + 1}, {15, 60, 20}}, false, api.ErrRange},
		"together more than most":        {[][]int{{50, most, 10}, {15, 60, 20}}, false, api.OK},
		"-1, then a number less":         {[][]int{{50, 40, -1}, {15, 60}}, false, api.ErrForm},
		"-1, and a row more":             {[][]int{{50, 40, -1}, {15, 60, 20}, {15, 60, 20}}, false, api.ErrForm},
		"not in it, and -1":              {[][]int{{50, 40, 11}, {15, 60, -1}}, false, api.ErrRange},
		"the tags are missing":           {[][]int{{50, 40, 10}, {31, 59, 10}}, false, api.OK},
		"the survey sees less":           {[][]int{{51, 40, 9}, {15, 60, 20}}, true, api.OK},
		"the survey sees too few":        {[][]int{{52, 40, 8}, {15, 60, 20}}, false, api.OK},
		"the survey sees more":           {[][]int{{49, 40, 11}, {15, 60, 20}}, true, api.OK},
		"the survey sees too many":       {[][]int{{48, 40, 12}, {15, 60, 20}}, false, api.OK},
		"5 young ones, and none dies":    {[][]int{{50, 40, 10}, {35, 50, 20}}, true, api.OK},
		"fewer young ones":               {[][]int{{50, 40, 10}, {4, 60, 40}}, false, api.OK},
		"too many are left":              {[][]int{{50, 40, 10}, {35, 51, 20}}, false, api.OK},
		"10 die":                         {[][]int{{50, 40, 10}, {25, 50, 20}}, true, api.OK},
		"11 die":                         {[][]int{{50, 40, 10}, {24, 50, 20}}, false, api.OK},
		"from class 0 to 1, and to 2":    {[][]int{{50, 40, 10}, {5, 40, 50}}, true, api.OK},
		"from class 0 to 2":              {[][]int{{50, 40, 10}, {5, 39, 51}}, false, api.OK},
		"all of class 2 die":             {[][]int{{50, 40, 10}, {25, 70, 0}}, true, api.OK},
		"all of class 2, and one more":   {[][]int{{49, 40, 11}, {25, 70, 0}}, false, api.OK},
		"they die, and others do not":    {[][]int{{50, 40, 10}, {35, 70, 0}}, true, api.OK},
		"none of class 0 grows, 10 die":  {[][]int{{20, 70, 10}, {25, 60, 10}}, true, api.OK},
		"one of class 1 grows backwards": {[][]int{{20, 70, 10}, {26, 59, 10}}, false, api.OK},
	} {
		if ok, e := stock.Allowed(example(), c.history); ok != c.allowed || e != c.want {
			t.Errorf("%s: Allowed returns %t %d, not %t %d", name, ok, e, c.allowed, c.want)
		}
	}
}

// P5.2: a row whose sum is above MaxHerd is in no set.
func TestTogetherAtMost(t *testing.T) {
	for _, c := range []struct {
		row  []int
		want bool
	}{{[]int{most, 0}, true}, {[]int{most - 1, 1}, true}, {[]int{most, 1}, false}, {[]int{1, most}, false}, {[]int{most, most}, false}, {[]int{0, 0}, true}} {
		if ok, e := stock.Allowed(calm(2, 0), [][]int{c.row}); ok != c.want || e != api.OK {
			t.Errorf("Allowed(%v) returns %t %d", c.row, ok, e)
		}
		if ok, e := stock.Allowed(calm(2, 1), [][]int{c.row, c.row}); ok != c.want || e != api.OK {
			t.Errorf("Allowed(%v, twice) returns %t %d", c.row, ok, e)
		}
	}
}

// P5.3: errors of Range, and which one comes first (R1).
func TestRangeErrors(t *testing.T) {
	for _, c := range []struct {
		year, from, to int
		want           api.Errno
	}{
		{-1, 0, 0, api.ErrRange}, {0, 0, 2, api.OK}, {1, 0, 0, api.OK}, {2, 0, 0, api.ErrRange},
		{0, -1, 0, api.ErrRange}, {0, 3, 3, api.ErrRange}, {0, 0, -1, api.ErrRange}, {0, 0, 3, api.ErrRange}, {0, 2, 2, api.OK},
		{0, 2, 1, api.ErrOrder}, {0, 1, 0, api.ErrOrder}, {2, 2, 1, api.ErrRange}, {0, 3, 1, api.ErrRange}, {0, 1, -1, api.ErrRange},
	} {
		if x, e := stock.Range(example(), c.year, c.from, c.to); e != c.want || e != api.OK && x != span(0, 0) {
			t.Errorf("Range(%d, %d to %d) returns %v %d, not %d", c.year, c.from, c.to, x, e, c.want)
		}
		empty := changed(func(s *api.Stock) { s.Signs[2].Number = one(101) })
		if c.want == api.OK {
			c.want = api.ErrClash
		}
		if x, e := stock.Range(empty, c.year, c.from, c.to); e != c.want || x != span(0, 0) {
			t.Errorf("of the empty set Range(%d, %d to %d) returns %v %d, not %d", c.year, c.from, c.to, x, e, c.want)
		}
		if l, e := stock.Bounds(empty); len(l) > 0 || e != api.ErrClash {
			t.Errorf("of the empty set Bounds returns %v %d", l, e)
		}
	}
}

// P5.3: ranges of stocks of which little is known, and of large numbers.
func TestRanges(t *testing.T) {
	// In a year, from 10 to 20 die, and 3 to 7 settle; animals of class 0 may be in class 2 afterwards.
	year := api.Year{Low: []int{0, 2, 2}, Top: []int{2, 2, 2}, Dead: span(10, 20), Young: span(3, 7)}
	free := api.Stock{Classes: 3, Years: []api.Year{year}}
	backwards := api.Stock{Classes: 3, Years: []api.Year{{Low: []int{2, 1, 2}, Top: []int{2, 1, 2}}}, Signs: []api.Sign{counted(0, 0, 0, 7, 7), counted(0, 1, 1, 20, 20), counted(0, 2, 2, 1, 1)}}
	known := func(signs ...api.Sign) api.Stock { return api.Stock{Classes: 3, Years: free.Years, Signs: signs} }
	for name, c := range map[string]struct {
		s              api.Stock
		year, from, to int
		want           api.Span
	}{
		"nothing":                            {calm(1, 0), 0, 0, 0, span(0, most)},
		"nothing of 10 classes":              {calm(10, 5), 5, 9, 9, span(0, most)},
		"at least the dead ones":             {free, 0, 0, 2, span(10, most)},
		"none, but for the young ones":       {free, 1, 0, 2, span(3, most-3)},
		"the young ones are in class 0":      {free, 1, 0, 0, span(3, most-3)},
		"the others are not":                 {free, 1, 1, 2, span(0, most-10)},
		"50 in all":                          {known(counted(0, 0, 2, 50, 50)), 1, 0, 2, span(33, 47)},
		"50 in all, that grow":               {known(counted(0, 0, 2, 50, 50)), 1, 1, 2, span(0, 40)},
		"50 in all, that may all grow":       {known(counted(0, 0, 2, 50, 50)), 1, 2, 2, span(0, 40)},
		"50 in all, in class 0":              {known(counted(0, 0, 2, 50, 50)), 1, 0, 0, span(3, 47)},
		"50 in class 1":                      {known(counted(0, 1, 1, 50, 50), counted(0, 0, 0, 0, 0)), 1, 2, 2, span(30, most-10)},
		"50 in class 1, and no others":       {known(counted(0, 1, 1, 50, 50), counted(0, 0, 2, 50, 50)), 1, 2, 2, span(30, 40)},
		"50 in class 1, and none of class 1": {known(counted(0, 1, 1, 50, 50), counted(0, 0, 2, 50, 50)), 1, 1, 1, span(0, 10)},
		"back from the next year":            {known(counted(1, 0, 2, 30, 40)), 0, 0, 2, span(33, 57)},
		"back to class 1":                    {known(counted(1, 2, 2, 30, 40)), 0, 1, 1, span(0, 60)},
		"as few as can be":                   {known(counted(1, 1, 2, 30, 30)), 0, 0, 2, span(40, most)},
		// Low and Top need not ascend: of the 7 of class 0, all are in class 2 afterwards; but sums say no more than that those of class 0 and greater ones may be.
		"class 0 overtakes class 1": {backwards, 1, 2, 2, span(1, 28)},
		"class 1 stays behind":      {backwards, 1, 1, 1, span(0, 27)},
		"nobody stays in class 0":   {backwards, 1, 0, 0, span(0, 0)},
		"most of all":               {calm(2, 1, counted(0, 1, 1, most, most)), 1, 0, 0, span(0, 0)},
		"most of all, in class 1":   {calm(2, 1, counted(0, 1, 1, most, most)), 1, 1, 1, span(most, most)},
		"all but two":               {calm(2, 1, tagged(0, 1, 1, most-2)), 1, 0, 0, span(0, 2)},
		"tags in two classes":       {calm(2, 0, tagged(0, 0, 0, 5), tagged(0, 1, 1, 6)), 0, 0, 1, span(11, most)},
		"tags of two classes":       {calm(2, 0, tagged(0, 0, 1, 5), counted(0, 0, 0, 0, 3)), 0, 1, 1, span(2, most)},
	} {
		if x, e := stock.Range(c.s, c.year, c.from, c.to); x != c.want || e != api.OK {
			t.Errorf("%s: Range returns %v %d, not %v", name, x, e, c.want)
		}
	}
}

// P5.3, R7: which numbers a survey allows, with parts that are not whole.
func TestSurveys(t *testing.T) {
	for _, c := range []struct {
		seen, low, high int
		want            api.Span
	}{
		{5, 500000, 500000, span(9, 11)},
		{0, 500000, 500000, span(0, 1)},
		{1, 500000, 500000, span(1, 3)},
		{0, api.Mil, api.Mil, span(0, 0)},
		{7, api.Mil, api.Mil, span(7, 7)},
		{0, 0, 0, span(0, most)},
		{0, 0, api.Mil, span(0, most)},
		{7, 0, api.Mil, span(7, most)},
		{7, 250000, api.Mil, span(7, 31)},
		{7, 250000, 300000, span(21, 31)},
		{3, 333333, 333333, span(7, 12)},
		{3, 333334, 333334, span(6, 11)},
		{1, 1, 1, span(1, 1999999)},
		{999, 1, 1, span(998000001, 999999999)},
		{1000, 1, 1, span(999000001, most)},
		{most, api.Mil, api.Mil, span(most, most)},
		{most - 1, 999999, api.Mil, span(most-1, most)},
	} {
		s := calm(2, 0, surveyed(0, 1, 1, c.seen, c.low, c.high))
		if x, e := stock.Range(s, 0, 1, 1); x != c.want || e != api.OK {
			t.Errorf("%d seen, of %d..%d: Range returns %v %d, not %v", c.seen, c.low, c.high, x, e, c.want)
		}
		for _, n := range []int{c.want.Lo - 1, c.want.Lo, c.want.Hi, c.want.Hi + 1} {
			if n < 0 || n > most {
				continue
			}
			if ok, e := stock.Allowed(s, [][]int{{0, n}}); ok != (c.want.Lo <= n && n <= c.want.Hi) || e != api.OK {
				t.Errorf("%d seen, of %d..%d: Allowed of %d returns %t %d", c.seen, c.low, c.high, n, ok, e)
			}
		}
	}
	for _, c := range []struct{ seen, part int }{{1, 0}, {5, 0}, {1001, 1}, {most, 999999}} {
		s := calm(1, 0, surveyed(0, 0, 0, c.seen, 0, c.part))
		if x, e := stock.Range(s, 0, 0, 0); x != span(0, 0) || e != api.ErrClash {
			t.Errorf("%d seen, of %d at most: Range returns %v %d", c.seen, c.part, x, e)
		}
		if ok, e := stock.Allowed(s, [][]int{{most}}); ok || e != api.OK {
			t.Errorf("%d seen, of %d at most: Allowed returns %t %d", c.seen, c.part, ok, e)
		}
	}
}

// P5.4: the fewest signs that contradict each other, of several the first ones in lexicographic order.
func TestConflicts(t *testing.T) {
	in := func(n int) api.Sign { return counted(0, 0, 0, n, n) }
	free := counted(0, 0, 0, 0, most)
	// All of the greatest number die, and 5 settle; of these 6 die.
	dead := calm(2, 2)
	dead.Years[0].Dead, dead.Years[0].Young, dead.Years[1].Dead = one(most), one(5), one(6)
	deadWith := func(signs ...api.Sign) api.Stock { return api.Stock{Classes: 2, Years: dead.Years, Signs: signs} }
	dying := func(signs ...api.Sign) api.Stock { return api.Stock{Classes: 2, Years: dead.Years[:1], Signs: signs} }
	chain := func(signs ...api.Sign) api.Stock { return calm(2, 3, signs...) }
	for name, c := range map[string]struct {
		s    api.Stock
		list []int
		want api.Errno
	}{
		"no sign":                      {calm(1, 0), nil, api.ErrMissing},
		"signs that agree":             {calm(1, 0, in(3), in(3), free), nil, api.ErrMissing},
		"two signs":                    {calm(1, 0, in(3), in(4)), []int{0, 1}, api.OK},
		"two of three signs":           {calm(1, 0, in(3), free, in(4)), []int{0, 2}, api.OK},
		"the first two of four":        {calm(1, 0, in(3), in(4), in(3), in(4)), []int{0, 1}, api.OK},
		"0 2 before 1 2":               {calm(1, 0, in(3), in(3), in(4)), []int{0, 2}, api.OK},
		"0 3 before 1 2":               {calm(1, 0, in(3), counted(0, 0, 0, 2, 5), counted(0, 0, 0, 1, 3), in(6)), []int{0, 3}, api.OK},
		"one sign":                     {calm(1, 0, in(3), in(4), surveyed(0, 0, 0, 1, 0, 0)), []int{2}, api.OK},
		"the first one":                {calm(1, 0, surveyed(0, 0, 0, 2, 0, 0), in(4), surveyed(0, 0, 0, 1, 0, 0)), []int{0}, api.OK},
		"three signs":                  {calm(2, 0, counted(0, 0, 1, 5, 5), tagged(0, 0, 0, 3), tagged(0, 1, 1, 3)), []int{0, 1, 2}, api.OK},
		"two, though three come first": {calm(2, 0, counted(0, 0, 1, 5, 5), tagged(0, 0, 0, 3), tagged(0, 1, 1, 3), tagged(0, 0, 0, 6)), []int{0, 3}, api.OK},
		"over years":                   {chain(counted(0, 0, 1, 5, 5), tagged(1, 0, 1, 5), tagged(3, 1, 1, 6)), []int{0, 2}, api.OK},
		"over years, as a sum":         {chain(counted(0, 0, 1, 5, 5), counted(1, 1, 1, 3, 5), tagged(2, 0, 0, 3), free), []int{0, 1, 2}, api.OK},
		"a sign, and a year":           {dying(in(0), tagged(1, 0, 1, 6), counted(0, 0, 1, 0, most-1)), []int{1}, api.OK},
		"no sign is needed":            {dead, nil, api.OK},
		"no sign is needed of two":     {deadWith(in(1), in(2)), nil, api.OK},
		"the last two of twelve":       {calm(1, 0, free, free, free, free, free, free, free, free, free, free, in(1), in(2)), []int{10, 11}, api.OK},
		"12 agree":                     {calm(1, 0, slices.Repeat([]api.Sign{in(1)}, 12)...), nil, api.ErrMissing},
	} {
		if list, e := stock.Conflict(c.s); !slices.Equal(list, c.list) || e != c.want {
			t.Errorf("%s: Conflict returns %v %d, not %v %d", name, list, e, c.list, c.want)
		}
	}
}

// P5.4: where all signs are needed, all sets of them are tried; and the fewest ones of many.
func TestConflictOfManySigns(t *testing.T) {
	// Animals of class 8 grow, so that those of both last classes are in class 9 a year later: 110 animals have tags.
	s := calm(10, 1)
	s.Years[0].Low = []int{0, 1, 2, 3, 4, 5, 6, 7, 9, 9}
	s.Years[0].Top = []int{1, 2, 3, 4, 5, 6, 7, 8, 9, 9}
	s.Signs = []api.Sign{tagged(0, 9, 9, 10), tagged(0, 8, 8, 10)}
	for c := range 9 {
		s.Signs = append(s.Signs, tagged(1, c, c, 10))
	}
	s.Signs = append(s.Signs, counted(1, 0, 9, 0, 109))
	if list, e := stock.Conflict(s); !slices.Equal(list, []int{0, 1, 2, 3, 4, 5, 6, 7, 8, 9, 10, 11}) || e != api.OK {
		t.Error("Conflict returns", list, e)
	}
	s.Signs[11].Number.Hi = 110
	if list, e := stock.Conflict(s); list != nil || e != api.ErrMissing {
		t.Error("Conflict returns", list, e)
	}
	s.Signs[11] = counted(1, 4, 9, 0, 69)
	if list, e := stock.Conflict(s); !slices.Equal(list, []int{0, 1, 6, 7, 8, 9, 10, 11}) || e != api.OK {
		t.Error("Conflict returns", list, e)
	}
}
