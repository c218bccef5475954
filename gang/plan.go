package gang

import (
	"cmp"
	"slices"

	"macadam/api"
)

// plan is a plan of a book; least is how much is done by it at each mile, at least.
type plan struct {
	*book
	works []api.GangWork
	least amounts
}

// read returns the plan that works are, unless the book or the question is wrong.
func read(b api.GangBook, works []api.GangWork, isQuestion bool) (plan, api.Errno) {
	if e := Check(b); e != api.OK {
		return plan{}, e
	}
	k := prepare(b)
	if !isQuestion || !k.isPlan(works) {
		return plan{}, api.ErrGangAsk
	}
	return plan{book: k}.and(works), api.OK
}

// and returns the plan with more works behind its own.
func (p plan) and(more []api.GangWork) plan {
	// Plans share their beginnings: without room behind its end, append makes a new list of it.
	p.works = append(p.works[:len(p.works):len(p.works)], more...)
	p.least = p.least.plus(p.done(more, least))
	return p
}

func (p plan) closes(s spot) bool {
	return slices.ContainsFunc(p.works, func(w api.GangWork) bool { return at(w) == s })
}

func (p plan) isMended(mile int) bool { return p.least[mile] >= p.Miles[mile].Needs.High }

func (p plan) mended() []int {
	// Each mile needs something.
	if p.least == (amounts{}) {
		return nil
	}
	return numbers(len(p.Miles), p.isMended)
}

// open returns all miles that may not be mended.
func (p plan) open() []int {
	return numbers(len(p.Miles), func(mile int) bool { return !p.isMended(mile) })
}

func (p plan) mendsAll() bool { return len(p.mended()) == len(p.Miles) }

// isSooner reports whether p is the better one of two plans that mend all.
func (p plan) isSooner(other plan) bool {
	return cmp.Or(
		cmp.Compare(p.last(), other.last()),
		cmp.Compare(len(p.works), len(other.works)),
		slices.CompareFunc(p.works, other.works, compareWorks),
	) < 0
}

// last returns the last night of a plan that mends something: it has works.
func (p plan) last() int { return p.works[len(p.works)-1].Night }

func compareWorks(w, other api.GangWork) int {
	return cmp.Or(cmp.Compare(w.Night, other.Night), cmp.Compare(w.Gang, other.Gang), cmp.Compare(w.Mile, other.Mile))
}

// mendsMore reports whether p mends more miles than another plan, or as many that come first.
func (p plan) mendsMore(other plan) bool {
	one, two := p.mended(), other.mended()
	return cmp.Or(cmp.Compare(len(two), len(one)), slices.Compare(one, two)) < 0
}
