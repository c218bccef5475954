package drain

import (
	"slices"

	"macadam/api"
)

// known is a book with all its truths; floods is in how many of them a ditch floods the road on a day.
type known struct {
	*book
	list   []truth
	floods map[spot]int
}

// learn returns what is known of a book, unless the book or the question is wrong, or the book cannot be true.
func learn(b api.DrainBook, isQuestion bool) (known, api.Errno) {
	if e := Check(b); e != api.OK {
		return known{}, e
	}
	if !isQuestion {
		return known{}, api.ErrDrainAsk
	}
	k := known{book: clearing(b, nil), floods: map[spot]int{}}
	for t := range k.truths {
		k.add(t)
	}
	if len(k.list) == 0 {
		return known{}, api.ErrDrainFalse
	}
	return k, api.OK
}

func (k *known) add(t truth) {
	k.list = append(k.list, t)
	for day := range len(k.Rain) {
		for ditch := range len(k.Ditches) {
			if t.evenings[day].floods[ditch] {
				k.floods[spot{ditch, day}]++
			}
		}
	}
}

// span returns the least and the greatest that a number is in all truths.
func (k known) span(number func(truth) int) api.Span {
	var l []int
	for _, t := range k.list {
		l = append(l, number(t))
	}
	return api.Span{Low: least(l[0], l[1:]...), High: slices.Max(l)}
}

func (k known) mayFlood(s spot) bool { return k.floods[s] > 0 }

func (k known) surelyFloods(s spot) bool { return k.floods[s] == len(k.list) }

// first returns the first day, and the first ditch on it, that are asked for, or ErrNone.
func (k known) first(isAsked func(s spot) bool) (spot, api.Errno) {
	for day := range len(k.Rain) {
		for ditch := range len(k.Ditches) {
			s := spot{ditch, day}
			if isAsked(s) {
				return s, api.OK
			}
		}
	}
	return spot{}, api.ErrNone
}

// firstDay returns the first day on which a ditch floods the road, as it is asked.
func firstDay(b api.DrainBook, ditch int, floods func(k known, s spot) bool) (int, api.Errno) {
	k, e := learn(b, isNumber(ditch, len(b.Ditches)))
	if e != api.OK {
		return 0, e
	}
	s, e := k.first(func(s spot) bool { return s.ditch == ditch && floods(k, s) })
	return s.day, e
}
