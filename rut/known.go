package rut

import "macadam/api"

// reach is the least and the greatest that something is in all truths.
type reach api.Span

func (r reach) low() int { return r.Low }

func (r reach) high() int { return r.High }

// verdict is how surely a mile is worse than the act allows; end is the end of how deep its ruts are that decides.
type verdict struct{ end func(reach) int }

// How surely a mile is worse than the act allows.
const (
	perhaps = iota
	surely
)

func verdicts() [2]verdict {
	return [2]verdict{perhaps: {reach.high}, surely: {reach.low}}
}

// known is a book with all its truths.
type known struct {
	*book
	list []truth
}

// learn returns what is known of a book, unless the book or the question is wrong, or the book cannot be true.
func learn(b api.RutBook, isQuestion bool) (known, api.Errno) {
	if e := Check(b); e != api.OK {
		return known{}, e
	}
	if !isQuestion {
		return known{}, api.ErrRutAsk
	}
	k := known{book: prepare(b)}
	for t := range k.truths {
		k.list = append(k.list, t)
	}
	if len(k.list) == 0 {
		return known{}, api.ErrRutFalse
	}
	return k, api.OK
}

// reach returns the least and the greatest that something is in all truths; there is one, as learn says.
func (k known) reach(something func(*truth) api.Span) reach {
	all := something(&k.list[0])
	for i := range k.list {
		s := something(&k.list[i])
		all = api.Span{Low: min(all.Low, s.Low), High: max(all.High, s.High)}
	}
	return reach(all)
}

func (k known) deep(mile, day int) reach { return k.reach(k.depth(place{mile, day})) }

func (k known) wear(kind int) reach {
	return k.reach(func(t *truth) api.Span { return just(t.costs[kind]) })
}

func (k known) frost(day int) reach {
	return k.reach(func(t *truth) api.Span { return just(t.frost[day]) })
}

func (k known) isWorse(mile, day, how int) bool {
	return verdicts()[how].end(k.deep(mile, day)) > k.Act
}

func (k known) bad(day int) []int {
	var miles []int
	for mile := range k.Miles {
		if k.isWorse(mile, day, perhaps) {
			miles = append(miles, mile)
		}
	}
	return miles[:len(miles):len(miles)]
}

func firstWorse(b api.RutBook, mile, how int) (int, api.Errno) {
	k, e := learn(b, isNumber(mile, len(b.Miles)))
	if e != api.OK {
		return 0, e
	}
	for day := range len(b.Days) {
		if k.isWorse(mile, day, how) {
			return day, api.OK
		}
	}
	return 0, api.ErrNone
}
