package stone

import (
	"slices"

	"macadam/api"
)

// known is a book with all its truths.
type known struct {
	*book
	list []truth
}

// learn returns what is known of a book, unless the book or the question is wrong, or the book cannot be true.
func learn(b api.StoneBook, isQuestion bool) (known, api.Errno) {
	if e := Check(b); e != api.OK {
		return known{}, e
	}
	if !isQuestion {
		return known{}, api.ErrStoneAsk
	}
	k := known{book: without(b, nil)}
	for t := range k.truths {
		k.list = append(k.list, t)
	}
	if len(k.list) == 0 {
		return known{}, api.ErrStoneFalse
	}
	return k, api.OK
}

// worth returns what all loads are worth together that are asked for, if each of their cubic yards is worth the rate.
func worth(b api.StoneBook, isQuestion bool, rate int, isAsked func(move int) bool) (api.Span, api.Errno) {
	k, e := learn(b, isQuestion)
	if e != api.OK {
		return api.Span{}, e
	}
	return api.Span(k.reach(func(t truth) reach {
		had := k.only(isAsked, t.had)
		return just(rate * sum(had[:]...))
	})), api.OK
}

// reach returns the least and the greatest that something is in all truths.
func (k known) reach(something func(truth) reach) reach {
	all := something(k.list[0])
	for _, t := range k.list {
		all = all.or(something(t))
	}
	return all
}

// held returns what was in a heap at a place: in each truth what is left at last is carted back.
func (k known) held(asked spot) reach {
	return k.reach(func(t truth) reach {
		held := t.left[asked.heap]
		// Where nothing was carted, nothing is carted back.
		if t.had == (loads{}) {
			return held
		}
		for at := (spot{asked.heap, len(k.Moves)}); at != asked; {
			at.behind--
			held = k.does(at.behind, at.heap).before(held, t.had[at.behind])
		}
		return held
	})
}

// only returns the numbers of those loads that are asked for, and nothing of all others.
func (b *book) only(isAsked func(move int) bool, l loads) loads {
	var part loads
	for move := range len(b.Moves) {
		if isAsked(move) {
			part[move] = l[move]
		}
	}
	return part
}

// short returns by how much each load had less than was told.
func (b *book) short(had loads) loads {
	var short loads
	for move := range len(b.Moves) {
		short[move] = b.Moves[move].Told - had[move]
	}
	return short
}

func (k known) liars() []int {
	var list []int
	for carter := range api.StoneCarters {
		if !slices.ContainsFunc(k.list, func(t truth) bool { return k.isHonest(carter, t) }) {
			list = append(list, carter)
		}
	}
	return list[:len(list):len(list)]
}

// isHonest reports whether no tally of a carter is greater than its load. None is less, as all of them are right.
func (k known) isHonest(carter int, t truth) bool {
	isOf := func(move int) bool { return k.Moves[move].Carter == carter }
	return k.only(isOf, k.short(t.had)) == loads{}
}
