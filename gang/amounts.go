package gang

import "macadam/api"

// reach is the least and the greatest that a gang works in a night.
type reach api.Span

func (r reach) low() int { return r.Low }

func (r reach) high() int { return r.High }

// Both ends of what a gang works.
const (
	least = iota
	most
)

func ends() [2]func(reach) int {
	return [2]func(reach) int{least: reach.low, most: reach.high}
}

// amounts is how much is done at each mile; it is 0 where there is no mile.
type amounts [api.GangMiles]int

// strength returns how much a gang works in a night, at an end of what is known.
func (b *book) strength(gang, end int) int { return ends()[end](reach(b.Gangs[gang].Works)) }

// done returns how much works do, at an end of what is known.
func (b *book) done(works []api.GangWork, end int) amounts {
	var all amounts
	for _, w := range works {
		all[w.Mile] += b.strength(w.Gang, end)
	}
	return all
}

func (a amounts) plus(other amounts) amounts {
	for mile := range a {
		a[mile] += other[mile]
	}
	return a
}

func greatest[T ~int](first T, others ...T) T {
	all := first
	for _, n := range others {
		all = max(all, n)
	}
	return all
}

// numbers returns all numbers below count that are so.
func numbers(count int, isSo func(n int) bool) []int {
	var l []int
	for n := range count {
		if isSo(n) {
			l = append(l, n)
		}
	}
	return l[:len(l):len(l)]
}
