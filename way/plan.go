package way

import (
	"cmp"
	"iter"
	"slices"

	"macadam/api"
	"macadam/gang"
)

// amounts is how much is done, or needed, at each mile; it is 0 where there is no mile.
type amounts [api.GangMiles]int

func (a amounts) plus(other amounts) amounts {
	for mile := range a {
		a[mile] += other[mile]
	}
	return a
}

func (a amounts) areEnough(needs amounts) bool {
	for mile := range a {
		if a[mile] < needs[mile] {
			return false
		}
	}
	return true
}

// plan is a safe plan of some nights; done is how much is done by it at each mile, at least.
type plan struct {
	works []api.GangWork
	done  amounts
}

// and returns the plan with another one behind it.
func (p plan) and(next plan) plan {
	// Plans share their beginnings: without room behind its end, append makes a new list of it.
	return plan{append(p.works[:len(p.works):len(p.works)], next.works...), p.done.plus(next.done)}
}

// isShorter reports whether p is the better one of two plans whose last nights are the same.
func (p plan) isShorter(other plan) bool {
	return cmp.Or(cmp.Compare(len(p.works), len(other.works)), slices.CompareFunc(p.works, other.works, compareWorks)) < 0
}

func compareWorks(w, other api.GangWork) int {
	return cmp.Or(cmp.Compare(w.Night, other.Night), cmp.Compare(w.Gang, other.Gang), cmp.Compare(w.Mile, other.Mile))
}

// needs returns how much each mile needs, at most.
func (b *book) needs() amounts {
	var all amounts
	for mile, m := range b.Gang.Miles {
		all[mile] = m.Needs.High
	}
	return all
}

// soonest returns the safe plan that surely mends all miles as soon as can be, and whether there is one.
func (b *book) soonest() (best plan, is bool) {
	var turns [][]plan
	for n := range b.Gang.Nights {
		turns = append(turns, b.turns(n))
		for p := range b.plans(turns[:len(turns):len(turns)]) {
			if !is || p.isShorter(best) {
				best, is = p, true
			}
		}
		if is {
			break
		}
	}
	return best, is
}

// turns returns all safe plans of a single night. A turn that is not safe becomes no safer by works more: no coach takes less if more miles are closed.
func (b *book) turns(n int) []plan {
	var all []plan
	add := func(works []api.GangWork) {
		if is, _ := gang.May(b.Gang, works); is && b.by(works, n).isSafe() {
			all = append(all, b.plan(works))
		}
	}
	add(nil)
	for g := range b.Gang.Gangs {
		// The turns that are added in this loop are not ranged over: a gang works at one mile a night.
		for _, before := range all {
			for mile := range b.Gang.Miles {
				add(append(before.works[:len(before.works):len(before.works)], api.GangWork{Night: n, Gang: g, Mile: mile}))
			}
		}
	}
	return all
}

// plan returns works as a plan, which they are.
func (b *book) plan(works []api.GangWork) plan {
	p := plan{works: works}
	for mile := range b.Gang.Miles {
		done, _ := gang.Done(b.Gang, works, mile)
		p.done[mile] = done.Low
	}
	return p
}

// plans yields all plans that surely mend all miles by the turns of some nights; but none with a work at a mile that is mended before: without that it has fewer works, and is as good.
func (b *book) plans(turns [][]plan) iter.Seq[plan] {
	return func(yield func(plan) bool) {
		needs, ahead := b.needs(), lookAhead(turns)
		var goOn func(n int, p plan) bool
		goOn = func(n int, p plan) bool {
			if p.done.areEnough(needs) {
				return yield(p)
			}
			// Behind all nights nothing is ahead.
			if !p.done.plus(ahead[n]).areEnough(needs) {
				return true
			}
			for _, turn := range turns[n] {
				if !p.isMendedAgain(turn, needs) && !goOn(n+1, p.and(turn)) {
					return false
				}
			}
			return true
		}
		goOn(0, plan{})
	}
}

// lookAhead returns, for each night and the end of all, how much can be done at each mile from then on, if it alone counts.
func lookAhead(turns [][]plan) []amounts {
	all := make([]amounts, len(turns)+1)
	for n := len(turns) - 1; n >= 0; n-- {
		var best amounts
		for _, turn := range turns[n] {
			for mile := range best {
				best[mile] = max(best[mile], turn.done[mile])
			}
		}
		all[n] = all[n+1].plus(best)
	}
	return all
}

// isMendedAgain reports whether a turn works at a mile that is mended by p.
func (p plan) isMendedAgain(turn plan, needs amounts) bool {
	return slices.ContainsFunc(turn.works, func(w api.GangWork) bool { return p.done[w.Mile] >= needs[w.Mile] })
}
