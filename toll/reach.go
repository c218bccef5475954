package toll

import "macadam/api"

// reach is the least and the greatest that something is.
type reach api.Span

func (r reach) least() int { return r.Low }

func (r reach) most() int { return r.High }

func (r reach) apart() int { return r.High - r.Low }

// Both ends of a reach.
const (
	least = iota
	most
)

// end is one of the two ends: how it is looked up.
type end struct{ of func(reach) int }

func ends() [2]end { return [2]end{least: {reach.least}, most: {reach.most}} }

func greatest[T ~int](first T, others ...T) T {
	all := first
	for _, n := range others {
		if n > all {
			all = n
		}
	}
	return all
}

// numbers returns all numbers below count that are so.
func numbers(count int, isSo func(n int) bool) []int {
	var l []int
	for n := range count {
		if isSo(n) {
			l = append(l, n)
		}
	}
	return l[:len(l):len(l)]
}
