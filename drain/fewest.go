package drain

import (
	"cmp"
	"slices"
)

// wrong returns the fewest marks without which the book can be true, the first ones of several: those that are wrong in one of the truths that there are without any marks.
func (b *book) wrong() []int {
	bare := *b
	bare.Marks = nil
	var all [][]int
	for t := range bare.truths {
		all = append(all, numbers(len(b.Marks), func(mark int) bool { return !gauge(b.Marks[mark]).isRight(t) }))
	}
	return slices.MinFunc(all, compareLists)
}

// fewest returns the fewest drains that are enough, the first ones of several, and whether there are any.
func (k known) fewest() (drains []int, is bool) {
	all := lists(len(k.Ditches))
	i := slices.IndexFunc(all, k.areEnough)
	if i < 0 {
		return nil, false
	}
	return all[i], true
}

func (k known) areEnough(drains []int) bool {
	return !slices.ContainsFunc(k.list, clearing(k.DrainBook, drains).floodsIn)
}

// lists returns all strictly increasing lists of the numbers of count things: the fewest first, of as many the first.
func lists(count int) [][]int {
	var all [][]int
	for set := range 1 << count {
		all = append(all, numbers(count, func(n int) bool { return set>>n&1 == 1 }))
	}
	slices.SortFunc(all, compareLists)
	return all
}

func compareLists(l, other []int) int {
	return cmp.Or(cmp.Compare(len(l), len(other)), slices.Compare(l, other))
}

// numbers returns all numbers below count that are so.
func numbers(count int, isSo func(n int) bool) []int {
	var l []int
	for n := range count {
		if isSo(n) {
			l = append(l, n)
		}
	}
	return l[:len(l):len(l)]
}
