package tank_test

import (
	"slices"
	"strconv"
	"strings"
	"testing"

	"homarus/api"
	"homarus/tank"
)

// trueText returns the text of a log, word by word, also if there is something wrong with it.
func trueText(number int, log []api.Reading) string {
	rows := [][]string{{"log", strconv.Itoa(number)}}
	for _, r := range log {
		row := []string{"at"}
		for _, n := range []int{r.Hour, r.Oxygen, r.Ammonia, r.Warm} {
			row = append(row, strconv.Itoa(n))
		}
		rows = append(rows, row)
	}
	rows = append(rows, []string{"end", strconv.Itoa(len(log))})
	text := ""
	for _, row := range rows {
		text += strings.Join(row, " ") + "\n"
	}
	return text
}

// P7.6: texts of no reading, of one, and of as many and as long ones as there may be.
func TestWriteAndRead(t *testing.T) {
	for text, c := range map[string]struct {
		number int
		log    []api.Reading
	}{
		"log 0\nat 1 920 1 -5\nend 1\n":                      {0, []api.Reading{at(1, 920, 1, -5)}},
		"log 5\nend 0\n":                                     {5, nil},
		"log 3\nat 0 0 0 0\nat 48 100000 99999 400\nend 2\n": {3, []api.Reading{at(0, 0, 0, 0), at(48, 100000, 99999, 400)}},
		"log 1\nat 7 10 100 -50\nend 1\n":                    {1, []api.Reading{at(7, 10, 100, -50)}},
		trueText(5, hours(49, at(0, 100000, 100000, -50))): {
			5, hours(49, at(0, 100000, 100000, -50)),
		},
	} {
		if s, e := tank.Write(c.number, c.log); s != text || e != api.OK {
			t.Errorf("Write returns %q %d, not %q", s, e, text)
		}
		if number, log, row, e := tank.Read(text); number != c.number || !slices.Equal(log, c.log) || row != 0 || e != api.OK {
			t.Errorf("%q: Read returns %d %v %d %d", text, number, log, row, e)
		}
	}
}

// P7.6: the first row that is not as it has to be, otherwise the error of the tank and of the log.
func TestReadErrors(t *testing.T) {
	const head, reading = "log 0\n", "at 1 2 3 4\n"
	for text, c := range map[string]struct {
		row  int
		want api.Errno
	}{
		"":                                  {1, api.ErrForm},
		"\n":                                {1, api.ErrForm},
		"x":                                 {1, api.ErrForm},
		"log":                               {1, api.ErrForm},
		"log\n":                             {1, api.ErrForm},
		"log \n":                            {1, api.ErrForm},
		"log 0":                             {1, api.ErrForm},
		"log 0 0\n":                         {1, api.ErrForm},
		"log  0\n":                          {1, api.ErrForm},
		" log 0\n":                          {1, api.ErrForm},
		"log 0 \n":                          {1, api.ErrForm},
		"Log 0\n":                           {1, api.ErrForm},
		"log 00\nend 0\n":                   {1, api.ErrForm},
		"log -0\nend 0\n":                   {1, api.ErrForm},
		"log +0\nend 0\n":                   {1, api.ErrForm},
		"log 1000000\nend 0\n":              {1, api.ErrForm},
		"log -1000000\nend 0\n":             {1, api.ErrForm},
		"log 0\r\nend 0\n":                  {1, api.ErrForm},
		"0\nend 0\n":                        {1, api.ErrForm},
		"end 0\n":                           {1, api.ErrForm},
		reading + head + "end 1\n":          {1, api.ErrForm},
		"end 0\n" + head:                    {1, api.ErrForm},
		"\n" + head + "end 0\n":             {1, api.ErrForm},
		head:                                {2, api.ErrForm},
		head + "\n":                         {2, api.ErrForm},
		head + "\nend 0\n":                  {2, api.ErrForm},
		head + head + "end 0\n":             {2, api.ErrForm},
		head + "log 1\nend 0\n":             {2, api.ErrForm},
		head + reading + head + "end 1\n":   {3, api.ErrForm},
		head + reading:                      {3, api.ErrForm},
		head + reading + reading:            {4, api.ErrForm},
		head + "at 1 2 3 4":                 {2, api.ErrForm},
		head + "at 1 2 3\nend 1\n":          {2, api.ErrForm},
		head + "at 1 2 3 4 5\nend 1\n":      {2, api.ErrForm},
		head + "at\nend 1\n":                {2, api.ErrForm},
		head + "1 2 3 4\nend 1\n":           {2, api.ErrForm},
		head + "AT 1 2 3 4\nend 1\n":        {2, api.ErrForm},
		head + "at  1 2 3 4\nend 1\n":       {2, api.ErrForm},
		head + "at 1 2 3 4 \nend 1\n":       {2, api.ErrForm},
		head + " at 1 2 3 4\nend 1\n":       {2, api.ErrForm},
		head + "at\t1 2 3 4\nend 1\n":       {2, api.ErrForm},
		head + "at 1 2 3 4\r\nend 1\n":      {2, api.ErrForm},
		head + "at 01 2 3 4\nend 1\n":       {2, api.ErrForm},
		head + "at 1 2 3 -0\nend 1\n":       {2, api.ErrForm},
		head + "at 1 2 3 -04\nend 1\n":      {2, api.ErrForm},
		head + "at 1 2 3 --4\nend 1\n":      {2, api.ErrForm},
		head + "at 1 2 3 - 4\nend 1\n":      {2, api.ErrForm},
		head + "at 1 2 3 -\nend 1\n":        {2, api.ErrForm},
		head + "at 1 +2 3 4\nend 1\n":       {2, api.ErrForm},
		head + "at 1 x 3 4\nend 1\n":        {2, api.ErrForm},
		head + "at 1 2 3 1_0\nend 1\n":      {2, api.ErrForm},
		head + "at 1 2 3 0x4\nend 1\n":      {2, api.ErrForm},
		head + "at 1 2 3 4.0\nend 1\n":      {2, api.ErrForm},
		head + "at 1 1000000 3 4\nend 1\n":  {2, api.ErrForm},
		head + "at 1 2 3 -1000000\nend 1\n": {2, api.ErrForm},
		head + "at 1 2 3 0000004\nend 1\n":  {2, api.ErrForm},
		head + "at 1 2 3 9223372036854775808\nend 1\n": {2, api.ErrForm},
		head + "end\n":                             {2, api.ErrForm},
		head + "end 0":                             {2, api.ErrForm},
		head + "end 1\n":                           {2, api.ErrForm},
		head + "end -1\n":                          {2, api.ErrForm},
		head + "end -0\n":                          {2, api.ErrForm},
		head + "end 00\n":                          {2, api.ErrForm},
		head + "end 0 0\n":                         {2, api.ErrForm},
		head + "end 1\n" + reading:                 {2, api.ErrForm},
		head + "end 1\nend 0\n":                    {2, api.ErrForm},
		head + "end 1\nx":                          {2, api.ErrForm},
		head + reading + "end 0\n":                 {3, api.ErrForm},
		head + reading + "end 2\n":                 {3, api.ErrForm},
		head + "end 0\n\n":                         {3, api.ErrForm},
		head + "end 0\nx":                          {3, api.ErrForm},
		head + "end 0\nend 0\n":                    {3, api.ErrForm},
		head + "end 0\n" + reading:                 {3, api.ErrForm},
		head + "end 0\n" + head + "end 0\n":        {3, api.ErrForm},
		head + reading + "end 1\n ":                {4, api.ErrForm},
		head + "at 49 2 3 4\nat 1 2 3 x\n":         {3, api.ErrForm},
		"log 6\nend 1\n":                           {2, api.ErrForm},
		strings.Repeat("x", 3000):                  {1, api.ErrForm},
		head + strings.Repeat(reading, 272) + "\n": {274, api.ErrForm},

		head + "end 0\n":                                         {0, api.OK},
		head + reading + "end 1\n":                               {0, api.OK},
		"log 5\n" + reading + "end 1\n":                          {0, api.OK},
		"log 6\n" + reading + "end 1\n":                          {0, api.ErrMissing},
		"log -1\nend 0\n":                                        {0, api.ErrMissing},
		"log 999999\nend 0\n":                                    {0, api.ErrMissing},
		"log -999999\nend 0\n":                                   {0, api.ErrMissing},
		"log 6\n" + strings.Repeat(reading, 50) + "end 50\n":     {0, api.ErrMissing},
		head + strings.Repeat(reading, 50) + "end 50\n":          {0, api.ErrFull},
		head + strings.Repeat(reading, 49) + "end 49\n":          {0, api.ErrOrder},
		head + "at 999999 2 3 4\nend 1\n":                        {0, api.ErrRange},
		head + "at 1 2 3 -999999\nend 1\n":                       {0, api.ErrRange},
		head + "at -1 2 3 4\nend 1\n":                            {0, api.ErrRange},
		head + reading + reading + "end 2\n":                     {0, api.ErrOrder},
		head + strings.Repeat(reading, 271) + "end 271\n":        {0, api.ErrFull},
		strings.Repeat("x", 3001):                                {0, api.ErrLong},
		strings.Repeat("\n", 3001):                               {0, api.ErrLong},
		head + "end 0\n" + strings.Repeat("x", 3000-len(head)-6): {3, api.ErrForm},
		head + "end 0\n" + strings.Repeat("x", 3001-len(head)-6): {0, api.ErrLong},
	} {
		number, log, row, e := tank.Read(text)
		if row != c.row || e != c.want {
			t.Errorf("%q: Read returns %d %d, not %d %d", text, row, e, c.row, c.want)
		}
		if e != api.OK && (number != 0 || len(log) > 0) {
			t.Errorf("%q: Read returns %d %v with an error", text, number, log)
		}
	}
}
