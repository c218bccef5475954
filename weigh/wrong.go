package weigh

import (
	"cmp"
	"slices"

	"macadam/api"
)

// wrong returns the fewest passes without which the book can be true, the first ones of several.
func (b *book) wrong() []int {
	sets := 1 << len(b.Passes)
	// Without any passes it can.
	best := numbers(sets - 1)
	for set := range sets {
		if l := numbers(set); isBefore(l, best) && b.rightWithout(set) {
			best = l
		}
	}
	return best
}

// numbers returns all numbers of a set, increasing.
func numbers(set int) []int {
	var l []int
	for n := range api.WeighPasses {
		if isIn(n, set) {
			l = append(l, n)
		}
	}
	return l[:len(l):len(l)]
}

func isIn(n, set int) bool { return set>>n&1 == 1 }

func isBefore(l, other []int) bool {
	return cmp.Or(cmp.Compare(len(l), len(other)), slices.Compare(l, other)) < 0
}

// rightWithout reports whether the book can be true without the passes of a set.
func (b *book) rightWithout(set int) bool {
	less := b.WeighBook
	less.Passes = nil
	for pass := range len(b.Passes) {
		if !isIn(pass, set) {
			less.Passes = append(less.Passes, b.Passes[pass])
		}
	}
	return prepare(less).right()
}
