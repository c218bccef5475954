package cart

import (
	"macadam/api"
	"macadam/rut"
)

// What has limits.
const (
	needs = iota
	stock
	carts
)

var limits = [3]api.Span{
	needs: {Low: 1, High: api.CartNeeds},
	stock: {Low: 0, High: api.CartStock},
	carts: {Low: 0, High: api.CartCarts},
}

func isBook(b api.CartBook) bool {
	return rut.Check(b.Rut) == api.OK && areNeeds(b.Needs, len(b.Rut.Miles)) && areDepots(b.Depots, len(b.Rut.Miles))
}

func areNeeds(list []int, miles int) bool {
	if len(list) != miles {
		return false
	}
	for _, n := range list {
		if !isWithin(n, limits[needs]) {
			return false
		}
	}
	return true
}

func areDepots(depots []api.CartDepot, miles int) bool {
	if len(depots) == 0 || len(depots) > api.CartDepots {
		return false
	}
	for _, d := range depots {
		if !isNumber(d.From, miles) || !isNumber(d.To, miles) || d.From > d.To || !isWithin(d.Stock, limits[stock]) || !isWithin(d.Carts, limits[carts]) {
			return false
		}
	}
	return true
}

// isNumber reports whether n is the number of one of count things.
func isNumber(n, count int) bool { return 0 <= n && n < count }

func isWithin(n int, s api.Span) bool { return s.Low <= n && n <= s.High }
