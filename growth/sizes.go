package growth

import (
	"iter"
	"math/bits"

	"homarus/api"
)

// A set has room for a step beyond the greatest size: what is beyond Most is brought back to it only after the step.
const words = (api.MaxSize+api.MaxStep)/64 + 1

// sizeSet is a set of sizes: its bit n says whether it has the size n.
type sizeSet [words]uint64

// between returns the sizes from low to high, none if low is the greater one.
func between(low, high int) sizeSet {
	var s sizeSet
	for n := low; n <= high; n++ {
		s[n/64] |= 1 << (n % 64)
	}
	return s
}

func (s sizeSet) and(t sizeSet) sizeSet {
	for i := range s {
		s[i] &= t[i]
	}
	return s
}

func (s sizeSet) without(t sizeSet) sizeSet {
	for i := range s {
		s[i] &^= t[i]
	}
	return s
}

func (s sizeSet) or(t sizeSet) sizeSet {
	for i := range s {
		s[i] |= t[i]
	}
	return s
}

func (s sizeSet) empty() bool { return s == sizeSet{} }

// raised returns the sizes that are greater by n.
func (s sizeSet) raised(n int) sizeSet {
	var t sizeSet
	whole, rest := n/64, n%64
	for i := whole; i < words; i++ {
		t[i] = s[i-whole] << rest
		if i > whole {
			t[i] |= s[i-whole-1] >> (64 - rest)
		}
	}
	return t
}

// stepped returns the sizes that are greater by any number of a span.
func (s sizeSet) stepped(step api.Span) sizeSet {
	t := s.raised(step.Lo)
	// What has been raised by have numbers in a row is raised again as a whole: so few rounds are enough.
	for have, want := 1, step.Hi-step.Lo+1; have < want; {
		more := min(have, want-have)
		t = t.or(t.raised(more))
		have += more
	}
	return t
}

// all hands out the sizes, ascending.
func (s sizeSet) all() iter.Seq[int] {
	return func(yield func(int) bool) {
		for i, word := range s {
			for ; word != 0; word &= word - 1 {
				if !yield(i*64 + bits.TrailingZeros64(word)) {
					return
				}
			}
		}
	}
}

// verdict says whether the sizes, of which there is at least one, are among those of another set.
func (s sizeSet) verdict(in sizeSet) int {
	switch s.and(in) {
	case s:
		return api.Sure
	case sizeSet{}:
		return api.Never
	}
	return api.Open
}

// join puts ascending numbers together to as few spans as can be, and returns what as makes of each.
func join[T any](numbers iter.Seq[int], as func(api.Span) T) []T {
	var list []T
	now, some := api.Span{}, false
	for n := range numbers {
		if some && n == now.Hi+1 {
			now.Hi = n
			continue
		}
		if some {
			list = append(list, as(now))
		}
		now, some = api.Span{Lo: n, Hi: n}, true
	}
	if some {
		list = append(list, as(now))
	}
	return list
}
