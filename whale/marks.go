package whale

import (
	"math/bits"
	"slices"

	"homarus/api"
)

// Owners returns the numbers of the marks of which a string is a piece.
func Owners(marks []string, piece string) ([]int, api.Errno) {
	if e := checkMarks(marks); e != api.OK {
		return nil, e
	}
	if !isMark(piece) {
		return nil, api.ErrForm
	}
	var list []int
	for set := owners(marks, len(piece))[piece]; set != 0; set &= set - 1 {
		list = append(list, bits.TrailingZeros(set))
	}
	return list, api.OK
}

// Short returns the least number of letters such that a piece of so many says whose rope it was.
func Short(marks []string) (int, api.Errno) {
	if e := checkMarks(marks); e != api.OK {
		return 0, e
	}
	if len(marks) == 0 {
		return 0, api.ErrMissing
	}
	shortest := len(slices.MinFunc(marks, func(a, b string) int { return len(a) - len(b) }))
	for n := 1; n <= shortest; n++ {
		if haveOneOwner(owners(marks, n)) {
			return n, api.OK
		}
	}
	return 0, api.ErrMissing
}

func checkMarks(marks []string) api.Errno {
	if len(marks) > api.MaxLicences {
		return api.ErrFull
	}
	for _, m := range marks {
		if !isMark(m) {
			return api.ErrForm
		}
	}
	return api.OK
}

func isMark(s string) bool {
	if !within(len(s), 1, api.MaxMark) {
		return false
	}
	for _, c := range []byte(s) {
		if c < 'a' || c > 'z' {
			return false
		}
	}
	return true
}

// owners returns all pieces of n letters of some marks, read from either end, each with the set of the marks of which it is one: a bit for each mark.
func owners(marks []string, n int) map[string]uint {
	sets := map[string]uint{}
	for i, mark := range marks {
		for _, read := range [...]string{mark, backwards(mark)} {
			for from := 0; from+n <= len(read); from++ {
				sets[read[from:from+n]] |= 1 << i
			}
		}
	}
	return sets
}

func haveOneOwner(sets map[string]uint) bool {
	for _, set := range sets {
		if bits.OnesCount(set) > 1 {
			return false
		}
	}
	return true
}

func backwards(s string) string {
	letters := []byte(s)
	slices.Reverse(letters)
	return string(letters)
}
