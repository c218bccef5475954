package gang

import (
	"cmp"

	"macadam/api"
)

// spot is a mile on a night.
type spot struct{ night, mile int }

func at(w api.GangWork) spot { return spot{w.Night, w.Mile} }

// nearby is by how much two miles differ that cannot both be closed on one night.
var nearby = [3]int{-1, 0, 1}

func (s spot) isNear(other spot) bool {
	for _, step := range nearby {
		if other == (spot{s.night, s.mile + step}) {
			return true
		}
	}
	return false
}

// book is a valid book in the calculation. chances has what was calculated before by chance.
type book struct {
	api.GangBook
	chances map[spot]int
}

func prepare(b api.GangBook) *book { return &book{b, map[spot]int{}} }

// can reports whether a gang can work at a mile on a night, by their numbers, which the book has.
func (b *book) can(gang int, s spot) bool {
	g := b.Gangs[gang]
	return isWithin(s.mile, g.From, g.To) && b.Miles[s.mile].Mails>>s.night&1 == 0
}

// isNext reports whether a work can be done behind those of a plan.
func (b *book) isNext(w api.GangWork, plan []api.GangWork) bool {
	if !isNumber(w.Night, b.Nights) || !isNumber(w.Gang, len(b.Gangs)) || !b.can(w.Gang, at(w)) {
		return false
	}
	for _, before := range plan {
		if !isBehind(w, before) || at(w).isNear(at(before)) {
			return false
		}
	}
	return true
}

func isBehind(w, before api.GangWork) bool {
	return cmp.Or(cmp.Compare(w.Night, before.Night), cmp.Compare(w.Gang, before.Gang)) > 0
}

func (b *book) isPlan(works []api.GangWork) bool {
	for i, w := range works {
		if !b.isNext(w, works[:i:i]) {
			return false
		}
	}
	return true
}

// chance returns how much surely can be done at a mile from a night on: all that is done if, on each night, the gang works there that does most.
func (b *book) chance(s spot) int {
	if s.night == b.Nights {
		return 0
	}
	known, is := b.chances[s]
	if is {
		return known
	}
	all := greatest(0, b.strengths(s)...) + b.chance(spot{s.night + 1, s.mile})
	b.chances[s] = all
	return all
}

// strengths returns what the gangs that can work at a mile on a night do there at least.
func (b *book) strengths(s spot) []int {
	var l []int
	for gang := range len(b.Gangs) {
		if b.can(gang, s) {
			l = append(l, b.strength(gang, least))
		}
	}
	return l[:len(l):len(l)]
}

// canMend reports whether some plan surely mends a mile.
func (b *book) canMend(mile int) bool {
	return b.chance(spot{0, mile}) >= b.Miles[mile].Needs.High
}
