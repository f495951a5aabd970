package stock

import (
	"iter"

	"homarus/api"
)

// Range returns the least and the greatest number of animals in some classes of a year that a history of the set has.
func Range(s api.Stock, year, from, to int) (api.Span, api.Errno) {
	if e := Check(s); e != api.OK {
		return api.Span{}, e
	}
	if e := checkClasses(s, year, from, to); e != api.OK {
		return api.Span{}, e
	}
	b, some := boundsOf(s)
	if !some {
		return api.Span{}, api.ErrClash
	}
	return b.span(place(s, year, from), place(s, year, to+1)), api.OK
}

// Bounds returns for each year and class the least and the greatest number of animals that a history of the set has.
func Bounds(s api.Stock) ([][]api.Span, api.Errno) {
	if e := Check(s); e != api.OK {
		return nil, e
	}
	b, some := boundsOf(s)
	if !some {
		return nil, api.ErrClash
	}
	var list [][]api.Span
	for year := range len(s.Years) + 1 {
		var row []api.Span
		for c := range s.Classes {
			row = append(row, b.span(place(s, year, c), place(s, year, c+1)))
		}
		list = append(list, row)
	}
	return list, api.OK
}

// bounds say by how much the sum at one place is greater than that at another one, at most. They are as tight as can be: no two of them together say more than a third one, so that each is reached by a history, in whole numbers.
type bounds [places][places]int

// boundsOf returns the bounds of the set of a stock, and whether there is any history in it.
func boundsOf(s api.Stock) (b bounds, some bool) {
	b, some = loosest().tightened(ofYears(s))
	for i := 0; some && i < len(s.Signs); i++ {
		b, some = b.tightened(ofSign(s, s.Signs[i]))
	}
	return b, some
}

// loosest returns the bounds of sums of which no more is known than that they are from 0 to MaxHerd.
func loosest() bounds {
	var b bounds
	for i := range b {
		for j := range b[i] {
			if i != j && i != nowhere {
				b[i][j] = api.MaxHerd
			}
		}
	}
	return b
}

// tightened returns the bounds with some inequalities more, and whether these can hold together.
func (b bounds) tightened(list iter.Seq[inequality]) (tighter bounds, some bool) {
	some = true
tightening:
	for x := range list {
		switch {
		case x.more+b[x.other][x.sum] < 0:
			some = false
			break tightening
		case x.more < b[x.sum][x.other]:
			b.add(x)
		}
	}
	return b, some
}

// add makes all bounds as tight as they are with an inequality more.
func (b *bounds) add(x inequality) {
	for i := range b {
		through := b[i][x.sum] + x.more
		for j := range b[i] {
			b[i][j] = min(b[i][j], through+b[x.other][j])
		}
	}
}

// span returns by how much the sum at one place is greater than that at another one, at least and at most.
func (b *bounds) span(sum, other int) api.Span {
	return api.Span{Lo: -b[other][sum], Hi: b[sum][other]}
}
