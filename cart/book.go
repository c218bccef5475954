package cart

import (
	"slices"

	"macadam/api"
)

// spot is a mile on a day.
type spot struct{ day, mile int }

// start is the day of a spot of a mile to which nothing was sent.
const start = -1

func at(s api.CartSend) spot { return spot{s.Day, s.Mile} }

// book is a valid book in the calculation. open is its first open day; known has what was calculated before by worse.
type book struct {
	api.CartBook
	open  int
	known map[spot]int
}

func prepare(b api.CartBook) *book {
	open := 0
	for _, s := range b.Rut.Staffs {
		open = max(open, s.Day+1)
	}
	return &book{b, open, map[spot]int{}}
}

// isOpen reports whether a day is open, and a mile is not mended on it anyway.
func (b *book) isOpen(s spot) bool {
	if s.day < b.open || !isNumber(s.day, len(b.Rut.Days)) {
		return false
	}
	return !slices.ContainsFunc(b.Rut.Mends, func(m api.RutMend) bool { return spot{m.Day, m.Mile} == s })
}

// mended returns the book on ruts in which the sends of a plan are mends, too. They are on open days, behind all staffs, so that its truths are those without them.
func (b *book) mended(sends []api.CartSend) api.RutBook {
	all := b.Rut
	all.Mends = slices.Clone(all.Mends)
	for _, s := range sends {
		all.Mends = append(all.Mends, api.RutMend{Mile: s.Mile, Day: s.Day})
	}
	return all
}

// filled returns the book in which a depot has as much stone as any can have.
func (b *book) filled(depot int) *book {
	all := *b
	all.Depots = slices.Clone(b.Depots)
	all.Depots[depot].Stock = api.CartStock
	return &all
}
