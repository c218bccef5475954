package cart

import (
	"iter"

	"macadam/api"
	"macadam/rut"
)

// goal is what is looked for among all safe plans.
type goal struct{ isBetter func(p, other plan) bool }

func leastStone() goal { return goal{plan.sendsLess} }

// leastOf looks for a plan by which a depot sends the least.
func leastOf(depot int) goal {
	return goal{func(p, other plan) bool { return p.left[atAll][depot] > other.left[atAll][depot] }}
}

// best returns the safe plan that is looked for, or ErrNone.
func (b *book) best(g goal) (plan, api.Errno) {
	best, e := plan{}, api.ErrNone
	// A plan that is not better becomes no better by what is sent besides.
	isWorth := func(p plan) bool { return e != api.OK || g.isBetter(p, best) }
	for p := range b.plans(b.miles(), isWorth) {
		best, e = p, api.OK
	}
	return best, e
}

// miles returns all miles.
func (b *book) miles() []int {
	var all []int
	for mile := range len(b.Rut.Miles) {
		all = append(all, mile)
	}
	return all[:len(all):len(all)]
}

// canKeep reports whether there is a plan by which a mile is never worse than the act allows. What is sent to other miles does not help it.
func (b *book) canKeep(mile int) bool {
	for range b.plans([]int{mile}, func(plan) bool { return true }) {
		return true
	}
	return false
}

// plans yields all plans that send to some miles alone, keep these on all days, and are worth it from their beginning on; but none with a send for nothing: without that it sends less, and keeps the miles, too.
func (b *book) plans(miles []int, isWorth func(plan) bool) iter.Seq[plan] {
	return func(yield func(plan) bool) {
		var goOn func(p plan) bool
		goOn = func(p plan) bool {
			if !isWorth(p) {
				return true
			}
			if p.day == len(b.Rut.Days) {
				return yield(p)
			}
		everyTurn:
			for next := range p.turns(miles) {
				more := 0 // miles to which something must be sent later
				for _, mile := range miles {
					worse := next.worse(mile, next.sends)
					if worse == p.day {
						continue everyTurn
					}
					if worse < len(b.Rut.Days) {
						more++
					}
				}
				if more <= next.rest() && !goOn(next.on(p.day+1)) {
					return false
				}
			}
			return true
		}
		goOn(b.begin())
	}
}

// turns yields what a plan becomes by all that can be sent to some miles on its day.
func (p plan) turns(miles []int) iter.Seq[plan] {
	return func(yield func(plan) bool) {
		var mend func(p plan, miles []int) bool
		mend = func(p plan, miles []int) bool {
			if len(miles) == 0 || p.left[atAll] == (stones{}) {
				return yield(p)
			}
			mile, others := miles[0], miles[1:]
			for depot := range len(p.Depots) {
				s := api.CartSend{Day: p.day, Mile: mile, Depot: depot}
				if p.isNext(s) && !p.isForNothing(mile) && !mend(p.and(s), others) {
					return false
				}
			}
			return mend(p, others)
		}
		mend(p, miles)
	}
}

// worse returns the first day at the end of which a mile is worse than the act allows in some truth by some sends, or the day behind all days. They keep the mile until the last one to it, which alone decides then.
func (b *book) worse(mile int, sends []api.CartSend) int {
	last := spot{start, mile}
	for _, s := range sends {
		if s.Mile == mile {
			last = at(s)
		}
	}
	day, is := b.known[last]
	if is {
		return day
	}
	day, e := rut.Worse(b.mended(sends), mile)
	if e == api.ErrNone {
		day = len(b.Rut.Days)
	}
	b.known[last] = day
	return day
}

// isForNothing reports whether a send to a mile on the plan's day is for nothing, or makes the one before it so: the mile is kept without it as well.
func (p plan) isForNothing(mile int) bool {
	if p.worse(mile, p.sends) == len(p.Rut.Days) {
		return true
	}
	for i := len(p.sends) - 1; i >= 0; i-- {
		if p.sends[i].Mile == mile {
			return p.worse(mile, p.sends[:i:i]) >= p.day
		}
	}
	return false
}
