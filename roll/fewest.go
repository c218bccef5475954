package roll

import (
	"cmp"
	"slices"
)

// fewest returns the fewest looks without which the book can be true, the first ones of several: those that are wrong in one of the truths that there are without any looks.
func (b *book) fewest() []int {
	bare := *b
	bare.Looks = nil
	best := b.looks(func(sight) bool { return true })
	for t := range bare.truths {
		wrong := b.looks(func(s sight) bool { return !s.isRight(t) })
		if compareLists(wrong, best) < 0 {
			best = wrong
		}
	}
	return best
}

// looks returns the numbers of all looks that are so.
func (b *book) looks(isSo func(sight) bool) []int {
	var l []int
	for n, look := range b.Looks {
		if isSo(sight(look)) {
			l = append(l, n)
		}
	}
	return l[:len(l):len(l)]
}

func compareLists(l, other []int) int {
	return cmp.Or(cmp.Compare(len(l), len(other)), slices.Compare(l, other))
}
