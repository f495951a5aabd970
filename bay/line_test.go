package bay_test

import (
	"strings"
	"testing"

	"homarus/bay"
)

// rightLines has a line of each kind, with its reply as the only line in the harbour of the examples.
func rightLines() [][2]string {
	return [][2]string{
		{"day 0", "ok"}, {"set 0 2 0", "ok"}, {"haul 0", "error 10"}, {"seen 0 2 0", "ok"}, {"cut 0", "error 10"}, {"catch 0 900 900 m n n hard", "error 10"},
		{"whale 0 2 3 0 1", "ok"}, {"buy chick 1 1", "error 4"}, {"die chick 1 1", "error 4"}, {"sell chick 1 1", "error 4"}, {"back chick 1 1", "error 4"}, {"drip chick 1", "error 4"},
		{"where 0", "home"}, {"holder 0 0", "0"}, {"faults", "none"}, {"danger", "none"}, {"count 0 1", "0 0"}, {"left chick", "0 0"},
	}
}

// numbersIn returns which words of a line are numbers.
func numbersIn(words []string) []int {
	var list []int
	for i, word := range words {
		if word[0] >= '0' && word[0] <= '9' {
			list = append(list, i)
		}
	}
	return list
}

// with returns the line of words with another one.
func with(words []string, i int, word string) string {
	list := append([]string{}, words...)
	list[i] = word
	return strings.Join(list, " ")
}

// P10.1: a line has as many words as it is said, of at least one byte, separated by one blank each; a number is decimal, of at most 6 digits, without a sign and needless zeros. All other lines are refused with ErrForm.
func TestForms(t *testing.T) {
	h := example()
	checkReplies(t, h, rightLines())
	for _, right := range rightLines() {
		line := right[0]
		words := strings.Split(line, " ")
		wrong := []string{line + " ", " " + line, line + " 0", line + " x", line + "\r", line + "\x00", strings.ToUpper(line), "x" + line, strings.Join(words[:len(words)-1], " ")}
		if len(words) > 1 {
			wrong = append(wrong, strings.Replace(line, " ", "  ", 1), strings.Replace(line, " ", "\t", 1), words[0], strings.Join(words[1:], " "), with(words, 1, ""))
		}
		for _, i := range numbersIn(words) {
			for _, word := range []string{"00", "01", "-1", "-0", "+1", "1.0", "1e1", "0x1", "1_0", "x", "", "1000000", "0000001", "9999999", "99999999999999999999", "٣", "m", "chick"} {
				wrong = append(wrong, with(words, i, word))
			}
		}
		for _, l := range wrong {
			// "left chick" with a letter more behind it has the name of another grade.
			if strings.HasPrefix(l, "left ") && len(words) == 2 && strings.Count(l, " ") == 1 && l != "left " {
				continue
			}
			if text, e := bay.Run(h, l+"\n"); text != "error 2\n" || e != 0 {
				t.Errorf("%q: the reply is %q %d", l, text, e)
			}
		}
		for _, i := range numbersIn(words) {
			if text, e := bay.Run(h, with(words, i, "999999")+"\n"); text == "error 2\n" || e != 0 {
				t.Errorf("%q: with the greatest number the reply is %q %d", line, text, e)
			}
		}
	}
	for _, l := range []string{"", " ", "  ", "x", "set", "0", "error 2", "day day", "faults 0", "danger 0", "\xff", "setting 0 2 0", "se 0 2 0", "report", "end"} {
		if text, e := bay.Run(h, l+"\n"); text != "error 2\n" || e != 0 {
			t.Errorf("%q: the reply is %q %d", l, text, e)
		}
	}
}

// P10.1: the words of an animal are those of the sheets of layer 4.
func TestAnimalForms(t *testing.T) {
	words := strings.Split("catch 0 900 900 f n n hard", " ")
	for i, c := range map[int]struct{ right, wrong []string }{
		4: {[]string{"m", "f"}, []string{"M", "F", "x", "male", "mf", "1", "?", "y", "n", "-"}},
		5: {[]string{"y", "n", "?"}, []string{"Y", "N", "yes", "no", "??", "1", "m", "f", "-", "eggs"}},
		6: {[]string{"y", "n", "?"}, []string{"Y", "N", "yes", "no", "??", "1", "m", "f", "-", "notch"}},
		7: {[]string{"hard", "soft", "old"}, []string{"Hard", "h", "new", "hards", "1", "?", "-", "hardsoft"}},
	} {
		for _, word := range c.right {
			checkReplies(t, example(), [][2]string{{with(words, i, word), "error 10"}})
		}
		for _, word := range c.wrong {
			checkReplies(t, example(), [][2]string{{with(words, i, word), "error 2"}})
		}
	}
}

// P10.1: any word of a byte or more can be a name; if no grade has it, that is said behind the form, and before all else.
func TestNames(t *testing.T) {
	for _, name := range []string{"x", "Chick", "chicks", "chic", "chickselect", "0", "1", "-", "\xff\xfe", "\t", "\r", "chick\r", "é", "\x00", "selectcull"} {
		for _, line := range []string{"buy " + name + " 0 0", "die " + name + " 1 1", "sell " + name + " 0 1", "back " + name + " 999999 0", "drip " + name + " 1", "left " + name} {
			checkReplies(t, example(), [][2]string{{line, "error 6"}})
		}
		for _, line := range []string{"buy " + name + " 0 00", "die " + name + " 1", "sell " + name + " -1 1", "drip " + name + " 1 1", "left " + name + " 1", "left"} {
			checkReplies(t, example(), [][2]string{{line, "error 2"}})
		}
	}
	checkReplies(t, example(), [][2]string{{"left chick; left select; left cull", "0 0; 0 0; 0 0"}})
}

// P10.1: a tag that there is not is said behind the form, and before all else.
func TestTags(t *testing.T) {
	for _, line := range []string{"set 4 999999 0", "set 999999 2 0", "haul 4", "seen 4 2 999999", "cut 4", "catch 4 9999 9998 m y y hard", "where 4", "where 40"} {
		checkReplies(t, example(), [][2]string{{line, "error 6"}})
	}
	for _, line := range []string{"set 4 999999", "haul 4 0", "seen 4 2 1000000", "cut 4 4", "catch 4 9999 9998 m y y x", "where 04"} {
		checkReplies(t, example(), [][2]string{{line, "error 2"}})
	}
	checkReplies(t, example(), [][2]string{{"where 3; seen 3 9 1; where 3", "home; ok; out 9 1"}})
}
