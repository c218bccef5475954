package toll

import (
	"slices"

	"macadam/api"
	"macadam/weigh"
)

// known is a book with all its truths.
type known struct {
	*book
	list []truth
}

// learn returns what is known of a book, unless the book or the question is wrong, or the book cannot be true.
func learn(b api.TollBook, isQuestion bool) (known, api.Errno) {
	if e := Check(b); e != api.OK {
		return known{}, e
	}
	if !isQuestion {
		return known{}, api.ErrTollAsk
	}
	if is, _ := weigh.Right(b.Weigh); !is {
		return known{}, api.ErrTollFalse
	}
	k := known{book: prepare(b)}
	for t := range k.truths {
		k.list = append(k.list, t)
	}
	if len(k.list) == 0 {
		return known{}, api.ErrTollFalse
	}
	return k, api.OK
}

// In which truths something is so.
const (
	inSome = iota
	inEach
)

func extents() [2]func(known, func(truth) bool) bool {
	return [2]func(known, func(truth) bool) bool{inSome: known.inSome, inEach: known.inEach}
}

// is reports whether something is so, in truths as they are meant.
func (k known) is(where int, something func(truth) bool) bool { return extents()[where](k, something) }

func (k known) inSome(something func(truth) bool) bool {
	return slices.ContainsFunc(k.list, something)
}

func (k known) inEach(something func(truth) bool) bool {
	return !k.inSome(func(t truth) bool { return !something(t) })
}

// span returns the least and the greatest that a number is in all truths: the least one with the least weights, the greatest one with the greatest.
func (k known) span(number func(t truth, at int) int) reach {
	first := k.list[0]
	all := reach{Low: number(first, least), High: number(first, most)}
	for _, t := range k.list {
		all = reach{Low: min(all.Low, number(t, least)), High: greatest(all.High, number(t, most))}
	}
	return all
}

func (k known) owed(wagon int) reach {
	return k.span(func(t truth, at int) int { return k.owes(t, wagon, at) })
}

// best returns the passage that it is best to ask about, and whether there is one.
func (k known) best() (passage int, is bool) {
	fewest := 0
	for n := range len(k.Passages) {
		if !k.isUnknown(n) {
			continue
		}
		worst := greatest(k.told(n, false).apart(), k.told(n, true).apart())
		if !is || worst < fewest {
			passage, fewest, is = n, worst, true
		}
	}
	return passage, is
}

// isUnknown reports whether a journey begins with a passage in some truths, but not in each.
func (k known) isUnknown(n int) bool {
	begins := func(t truth) bool { return t.begins(n) }
	return k.is(inSome, begins) && !k.is(inEach, begins)
}

// told returns what is known once it is told whether a journey begins with a passage.
func (k known) told(n int, begins bool) known {
	var list []truth
	for _, t := range k.list {
		if t.begins(n) == begins {
			list = append(list, t)
		}
	}
	return known{k.book, list[:len(list):len(list)]}
}

// apart returns how far both ends of what each wagon owes are apart, all wagons together. Those of its debt are as far: it is known what was paid.
func (k known) apart() int {
	all := 0
	for wagon := range len(k.Weigh.Wagons) {
		all += k.owed(wagon).apart()
	}
	return all
}
