package cart

import (
	"cmp"
	"slices"

	"macadam/api"
	"macadam/rut"
)

// plan is a plan of a book until a day: its sends, and what all depots have left, at all and on this day.
type plan struct {
	*book
	day   int
	sends []api.CartSend
	left  [2]stones
}

// read returns the plan that sends are, unless the book or the question is wrong.
func read(b api.CartBook, sends []api.CartSend, isQuestion bool) (plan, api.Errno) {
	if e := Check(b); e != api.OK {
		return plan{}, e
	}
	p, is := prepare(b).follow(sends)
	if !is || !isQuestion {
		return plan{}, api.ErrCartAsk
	}
	return p, api.OK
}

// learn returns the plan that sends are, unless the book or the question is wrong, or the ruts cannot be as they were measured.
func learn(b api.CartBook, sends []api.CartSend, isQuestion bool) (plan, api.Errno) {
	p, e := read(b, sends, isQuestion)
	if e != api.OK {
		return plan{}, e
	}
	if is, _ := rut.Right(b.Rut); !is {
		return plan{}, api.ErrCartFalse
	}
	return p, api.OK
}

// follow returns the plan that sends are, and whether they are one.
func (b *book) follow(sends []api.CartSend) (plan, bool) {
	p := b.begin()
	for _, s := range sends {
		if s.Day != p.day {
			p = p.on(s.Day)
		}
		if !p.isNext(s) {
			return plan{}, false
		}
		p = p.and(s)
	}
	return p, true
}

// begin returns the plan without sends on the first day.
func (b *book) begin() plan {
	p := plan{book: b}
	p.left[atAll] = b.supply(atAll)
	return p.on(0)
}

// on returns a plan on another day, on which nothing is sent yet.
func (p plan) on(day int) plan {
	p.day = day
	p.left[onDay] = p.supply(onDay)
	return p
}

// isNext reports whether a send on the plan's day can be one more of it.
func (p plan) isNext(s api.CartSend) bool {
	return p.rest() > 0 && p.isOpen(at(s)) && p.isBehind(at(s)) && isNumber(s.Depot, len(p.Depots)) && p.reaches(s) && p.isEnough(s)
}

// rest returns how many sends more a plan can have.
func (p plan) rest() int { return api.RutMends - len(p.Rut.Mends) - len(p.sends) }

func (p plan) isBehind(s spot) bool {
	if len(p.sends) == 0 {
		return true
	}
	last := at(p.sends[len(p.sends)-1])
	return cmp.Or(cmp.Compare(s.day, last.day), cmp.Compare(s.mile, last.mile)) > 0
}

func (p plan) reaches(s api.CartSend) bool {
	d := p.Depots[s.Depot]
	return d.From <= s.Mile && s.Mile <= d.To
}

func (p plan) isEnough(s api.CartSend) bool {
	need := p.Needs[s.Mile]
	return need <= p.left[atAll][s.Depot] && need <= p.left[onDay][s.Depot]
}

// and returns the plan with one send more.
func (p plan) and(s api.CartSend) plan {
	// Plans share their beginnings: without room behind its end, append makes a new list of it.
	p.sends = append(p.sends[:len(p.sends):len(p.sends)], s)
	for kind := range p.left {
		p.left[kind][s.Depot] -= p.Needs[s.Mile]
	}
	return p
}

func (p plan) deep(s spot) api.Span {
	span, _ := rut.Deep(p.mended(p.sends), s.mile, s.day)
	return span
}

func (p plan) isSafe() bool {
	_, _, e := rut.First(p.mended(p.sends))
	return e == api.ErrNone
}

// sendsLess reports whether p is the better one of two safe plans: it sends less stone, or as much and comes before the other one.
func (p plan) sendsLess(other plan) bool {
	return cmp.Or(
		cmp.Compare(sum(other.left[atAll][:]...), sum(p.left[atAll][:]...)),
		slices.CompareFunc(p.sends, other.sends, compareSends),
	) < 0
}

func compareSends(s, other api.CartSend) int {
	return cmp.Or(cmp.Compare(s.Day, other.Day), cmp.Compare(s.Mile, other.Mile), cmp.Compare(s.Depot, other.Depot))
}
