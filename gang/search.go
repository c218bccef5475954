package gang

import "macadam/api"

// goal is what is looked for among all plans: the best of those that are asked for.
type goal struct {
	isAsked  func(p plan) bool
	isBetter func(p, other plan) bool
}

func soonest() goal { return goal{plan.mendsAll, plan.isSooner} }

func fullest() goal { return goal{func(plan) bool { return true }, plan.mendsMore} }

// best returns the plan that is looked for, and whether there is one.
func (b *book) best(g goal) (best plan, is bool) {
	for p := range b.plans {
		if g.isAsked(p) && (!is || g.isBetter(p, best)) {
			best, is = p, true
		}
	}
	return best, is
}

// plans yields all plans, but for those that close a mile for nothing: without such works they are shorter, and mend the same.
func (b *book) plans(yield func(plan) bool) {
	var turns [][][]api.GangWork
	for night := range b.Nights {
		turns = append(turns, b.turns(night))
	}
	var goOn func(night int, p plan) bool
	goOn = func(night int, p plan) bool {
		if night == b.Nights {
			return yield(p)
		}
	everyTurn:
		for _, turn := range turns[night] {
			for _, w := range turn {
				if p.isForNothing(at(w)) {
					continue everyTurn
				}
			}
			if !goOn(night+1, p.and(turn)) {
				return false
			}
		}
		return true
	}
	goOn(0, plan{book: b})
}

// turns returns all plans of a single night. The first one has no works.
func (b *book) turns(night int) [][]api.GangWork {
	all := [][]api.GangWork{nil}
	for gang := range len(b.Gangs) {
		// The turns that are added in this loop are not ranged over: a gang works at one mile a night.
		for _, turn := range all {
			for mile := range len(b.Miles) {
				w := api.GangWork{Night: night, Gang: gang, Mile: mile}
				if b.isNext(w, turn) {
					all = append(all, append(turn[:len(turn):len(turn)], w))
				}
			}
		}
	}
	return all
}

// isForNothing reports whether a mile need not be closed: it surely is mended by what is done before that night, or is not by all that can be done from then on.
func (p plan) isForNothing(s spot) bool {
	return p.isMended(s.mile) || p.least[s.mile]+p.chance(s) < p.Miles[s.mile].Needs.High
}
