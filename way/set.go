package way

import (
	"cmp"
	"slices"
)

// set is a set of miles.
type set int

func setOf(miles []int) set {
	var all set
	for _, mile := range miles {
		all |= 1 << mile
	}
	return all
}

func (s set) has(mile int) bool { return s>>mile&1 == 1 }

// isApart reports whether no two miles follow each other.
func (s set) isApart() bool { return s&(s<<1) == 0 }

// fullest returns the most miles, no two of which follow each other, that can be closed at once, the first ones of several, and whether there are any such, or none.
func (b *book) fullest() (best []int, is bool) {
	count := len(b.Gang.Miles)
	for s := range set(1) << count {
		if !s.isApart() || !b.on(s).isSafe() {
			continue
		}
		if miles := numbers(count, s.has); !is || areMore(miles, best) {
			best, is = miles, true
		}
	}
	return best, is
}

// areMore reports whether miles are more than others, or as many that come first.
func areMore(miles, others []int) bool {
	return cmp.Or(cmp.Compare(len(others), len(miles)), slices.Compare(miles, others)) < 0
}

// numbers returns all numbers below count that are so.
func numbers(count int, isSo func(n int) bool) []int {
	var l []int
	for n := range count {
		if isSo(n) {
			l = append(l, n)
		}
	}
	return l[:len(l):len(l)]
}

func not(isSo func(n int) bool) func(n int) bool {
	return func(n int) bool { return !isSo(n) }
}
