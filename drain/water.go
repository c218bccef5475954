package drain

import (
	"slices"

	"macadam/api"
)

// levels is how high the water stands in each ditch; it is 0 where there is no ditch.
type levels [api.DrainDitches]int

// evening is how high the water stands at the end of a day, and which ditches flooded the road on this day.
type evening struct {
	stands levels
	floods [api.DrainDitches]bool
}

// book is a valid book in the calculation. Drains that are cleared are open, whatever they are in a truth.
type book struct {
	api.DrainBook
	isCleared func(ditch int) bool
}

// clearing returns a book in which the drains of a list are cleared.
func clearing(b api.DrainBook, list []int) *book {
	return &book{b, func(ditch int) bool { return slices.Contains(list, ditch) }}
}

type ditch api.DrainDitch

func (d ditch) nothing(int) int { return 0 }

func (d ditch) some(water int) int { return least(d.Lets, water) }

// What a drain is in a truth.
const (
	blocked = iota
	open
)

// outlets returns how much drains let through of the water in their ditches.
func outlets() [2]func(d ditch, water int) int {
	return [2]func(d ditch, water int) int{blocked: ditch.nothing, open: ditch.some}
}

// runs returns how much water runs out of a ditch in a truth.
func (b *book) runs(t truth, n, water int) int {
	drain := t.drains[n]
	if b.isCleared(n) {
		drain = open
	}
	return outlets()[drain](ditch(b.Ditches[n]), water)
}

// evening returns the end of a day in a truth, whose evening of the day before is known.
func (b *book) evening(t truth, day int) evening {
	var e evening
	if day > 0 {
		e.stands = t.evenings[day-1].stands
	}
	rain := t.rain[day]
	// On a dry road nothing runs.
	if rain == 0 && e.stands == (levels{}) {
		return e
	}
	for n, d := range b.Ditches {
		water := e.stands[n] + rain
		runs := b.runs(t, n, water)
		if d.Down != api.DrainRiver {
			e.stands[d.Down] += runs
		}
		e.floods[n] = water-runs > d.Holds
		e.stands[n] = least(water-runs, d.Holds)
	}
	return e
}

// floodsIn reports whether any ditch floods the road with the rain and the drains of a truth, but for those that are cleared.
func (b *book) floodsIn(t truth) bool {
	for day := range len(b.Rain) {
		e := b.evening(t, day)
		if slices.Contains(e.floods[:], true) {
			return true
		}
		t.evenings[day] = e
	}
	return false
}

func least[T ~int](first T, others ...T) T {
	all := first
	for _, n := range others {
		all = min(all, n)
	}
	return all
}
