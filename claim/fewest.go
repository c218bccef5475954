package claim

import (
	"cmp"
	"slices"
)

// fewest returns the fewest clocks without which the book can be true, the first ones of several: those that are wrong in one of the truths that there are without any clocks.
func (b *book) fewest() []int {
	bare := b.ClaimBook
	bare.Clocks = nil
	best := b.numbers(1<<len(b.Clocks) - 1)
	for t := range prepare(bare).truths {
		wrong := b.numbers(b.wrongIn(t))
		if compareLists(wrong, best) < 0 {
			best = wrong
		}
	}
	return best
}

// wrongIn returns the set of all clocks that are wrong in a truth.
func (b *book) wrongIn(t truth) int {
	set := 0
	for stage := range len(b.Stages) {
		set |= b.wrongAt(stage, t)
	}
	return set
}

// numbers returns the numbers of a set of clocks.
func (b *book) numbers(set int) []int {
	var l []int
	for clock := range len(b.Clocks) {
		if has(set, clock) {
			l = append(l, clock)
		}
	}
	return l[:len(l):len(l)]
}

func compareLists(l, other []int) int {
	return cmp.Or(cmp.Compare(len(l), len(other)), slices.Compare(l, other))
}
