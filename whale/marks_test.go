package whale_test

import (
	"slices"
	"strings"
	"testing"

	"homarus/api"
	"homarus/whale"
)

// P6.6: whose piece it may be.
func TestOwners(t *testing.T) {
	two := []string{"abc", "cbd"}
	long := "abcdefghijkl"
	for name, c := range map[string]struct {
		marks []string
		piece string
		list  []int
		want  api.Errno
	}{
		"bc":                            {two, "bc", []int{0, 1}, api.OK},
		"ab":                            {two, "ab", []int{0}, api.OK},
		"cba":                           {two, "cba", []int{0}, api.OK},
		"dbc":                           {two, "dbc", []int{1}, api.OK},
		"ac":                            {two, "ac", nil, api.OK},
		"e":                             {two, "e", nil, api.OK},
		"b":                             {two, "b", []int{0, 1}, api.OK},
		"abcd":                          {two, "abcd", nil, api.OK},
		"the last one alone":            {two, "d", []int{1}, api.OK},
		"no marks":                      {nil, "a", nil, api.OK},
		"no marks, no piece":            {nil, "", nil, api.ErrForm},
		"no piece":                      {two, "", nil, api.ErrForm},
		"a piece A":                     {two, "A", nil, api.ErrForm},
		"a piece of 12":                 {[]string{long}, long, []int{0}, api.OK},
		"a piece of 13":                 {[]string{long}, long + "m", nil, api.ErrForm},
		"12 marks":                      {strings.Fields("a b a b a b a b a b a b"), "b", []int{1, 3, 5, 7, 9, 11}, api.OK},
		"13 marks":                      {make([]string, 13), "a", nil, api.ErrFull},
		"13 marks, no piece":            {make([]string, 13), "", nil, api.ErrFull},
		"a mark of 13":                  {[]string{"a", long + "m"}, "a", nil, api.ErrForm},
		"an empty mark":                 {[]string{"a", ""}, "a", nil, api.ErrForm},
		"a mark with a blank":           {[]string{"a", "a b"}, "a", nil, api.ErrForm},
		"a mark with a byte of a rune":  {[]string{"\xc3"}, "a", nil, api.ErrForm},
		"a piece longer than all marks": {two, "abcabc", nil, api.OK},
	} {
		list, e := whale.Owners(c.marks, c.piece)
		if e != c.want || !slices.Equal(list, c.list) {
			t.Errorf("%s: Owners returns %v %d", name, list, e)
		}
	}
}

// P6.6: how long a piece has to be.
func TestShort(t *testing.T) {
	for name, c := range map[string]struct {
		marks string
		n     int
		want  api.Errno
	}{
		"abc and cbd":                    {"abc cbd", 3, api.OK},
		"aa and ab":                      {"aa ab", 2, api.OK},
		"abc and cba":                    {"abc cba", 0, api.ErrMissing},
		"the same twice":                 {"abc abc", 0, api.ErrMissing},
		"one":                            {"abcabc", 1, api.OK},
		"one of one letter":              {"a", 1, api.OK},
		"no letter of both":              {"abc de", 1, api.OK},
		"one in the other one":           {"abc zabcz", 0, api.ErrMissing},
		"one backwards in the other one": {"abc zcbaz", 0, api.ErrMissing},
		"no longer than the shortest":    {"abab bb", 2, api.OK},
		"a shortest one of one letter":   {"ab ba a", 0, api.ErrMissing},
		"the shortest stands last":       {"aabb abb ab", 0, api.ErrMissing},
		"12 marks":                       {"a b c d e f g h i j k l", 1, api.OK},
		"12 marks, two of them alike":    {"a b c d e f g h i j k a", 0, api.ErrMissing},
		"13 marks":                       {"a b c d e f g h i j k l m", 0, api.ErrFull},
		"13 marks, one is none":          {"A b c d e f g h i j k l m", 0, api.ErrFull},
		"a mark A":                       {"a A", 0, api.ErrForm},
		"a mark of 13":                   {"abcdefghijklm", 0, api.ErrForm},
		"no marks":                       {"", 0, api.ErrMissing},
	} {
		if n, e := whale.Short(strings.Fields(c.marks)); n != c.n || e != c.want {
			t.Errorf("%s: Short returns %d %d", name, n, e)
		}
	}
	if n, e := whale.Short([]string{""}); n != 0 || e != api.ErrForm {
		t.Error("an empty mark: Short returns", n, e)
	}
}
