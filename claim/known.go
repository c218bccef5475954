package claim

import (
	"slices"

	"macadam/api"
)

// known is a book with all its truths.
type known struct {
	*book
	list []truth
}

// learn returns what is known of a book, unless the book or the question is wrong, or the book cannot be true.
func learn(b api.ClaimBook, isQuestion bool) (known, api.Errno) {
	if e := Check(b); e != api.OK {
		return known{}, e
	}
	if !isQuestion {
		return known{}, api.ErrClaimAsk
	}
	k := known{book: prepare(b)}
	for t := range k.truths {
		k.list = append(k.list, t)
	}
	if len(k.list) == 0 {
		return known{}, api.ErrClaimFalse
	}
	return k, api.OK
}

// question is what is asked of a book: whether there is such a thing, and which number of a truth is meant.
type question struct {
	isValid bool
	number  func(b *book, t truth) int
}

func answer(b api.ClaimBook, q question) (api.Span, api.Errno) {
	k, e := learn(b, q.isValid)
	if e != api.OK {
		return api.Span{}, e
	}
	return k.span(q), api.OK
}

// span returns the least and the greatest that the number of a question is in all truths.
func (k known) span(q question) api.Span {
	first := q.number(k.book, k.list[0])
	s := api.Span{Low: first, High: first}
	for _, t := range k.list {
		n := q.number(k.book, t)
		s = api.Span{Low: min(s.Low, n), High: max(s.High, n)}
	}
	return s
}

// In which truths something is so; Blame returns these numbers.
const (
	inNone = iota
	inSome
	inEach
)

// extent is in which truths something is so, and how to ask whether it is.
type extent struct {
	where int
	isSo  func(k known, something func(truth) bool) bool
}

func extents() [3]extent {
	return [3]extent{
		{inEach, known.each},
		{inSome, known.some},
		{inNone, known.none},
	}
}

// where returns in which truths something is so.
func (k known) where(something func(truth) bool) int {
	for _, x := range extents() {
		if x.isSo(k, something) {
			return x.where
		}
	}
	return inNone
}

func (k known) each(something func(truth) bool) bool {
	return !k.some(func(t truth) bool { return !something(t) })
}

func (k known) some(something func(truth) bool) bool { return slices.ContainsFunc(k.list, something) }

func (k known) none(something func(truth) bool) bool { return !k.some(something) }

// weathers returns the set of all weathers that there are in some truths.
func (k known) weathers() int {
	set := 0
	for weather := range len(k.Costs) {
		if k.where(func(t truth) bool { return t.weather == weather }) != inNone {
			set |= 1 << weather
		}
	}
	return set
}

// first returns the first stage at which the coach is late in each truth, or ErrNone.
func (k known) first() (int, api.Errno) {
	for stage := range len(k.Stages) {
		if k.where(func(t truth) bool { return k.late(stage, t) > 0 }) == inEach {
			return stage, api.OK
		}
	}
	return 0, api.ErrNone
}
