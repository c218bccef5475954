package cart

import "macadam/api"

type depot api.CartDepot

func (d depot) stock() int { return d.Stock }

func (d depot) carts() int { return d.Carts }

// Of what a depot can send no more than it has: at all, and on a day.
const (
	atAll = iota
	onDay
)

func supplies() [2]func(depot) int {
	return [2]func(depot) int{atAll: depot.stock, onDay: depot.carts}
}

// stones is how much stone each depot has; it is 0 where there is no depot.
type stones [api.CartDepots]int

// supply returns what all depots have, at all or on a day.
func (b *book) supply(kind int) stones {
	var all stones
	for n, d := range b.Depots {
		all[n] = supplies()[kind](depot(d))
	}
	return all
}

func sum[T ~int](terms ...T) T {
	var all T
	for _, t := range terms {
		all += t
	}
	return all
}
