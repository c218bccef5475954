package roll

import "macadam/api"

// known is a book with all its truths; roads is, for each day, in how many of them the road is so at its end.
type known struct {
	*book
	list  []truth
	roads [api.RollDays]map[road]int
}

// learn returns what is known of a book, unless the book or the question is wrong, or the book cannot be true.
func learn(b api.RollBook, isQuestion bool) (known, api.Errno) {
	if e := Check(b); e != api.OK {
		return known{}, e
	}
	if !isQuestion {
		return known{}, api.ErrRollAsk
	}
	k := known{book: prepare(b)}
	for day := range len(b.Days) {
		k.roads[day] = map[road]int{}
	}
	for t := range k.truths {
		k.add(t)
	}
	if len(k.list) == 0 {
		return known{}, api.ErrRollFalse
	}
	return k, api.OK
}

func (k *known) add(t truth) {
	k.list = append(k.list, t)
	for day := range len(k.Days) {
		k.roads[day][t.ends[day]]++
	}
}

// span returns the least and the greatest that a number is in all truths.
func (k known) span(number func(truth) int) api.Span {
	first := number(k.list[0])
	s := api.Span{Low: first, High: first}
	for _, t := range k.list {
		n := number(t)
		s = api.Span{Low: min(s.Low, n), High: max(s.High, n)}
	}
	return s
}

// skies returns the set of all skies that a day has in some truths.
func (k known) skies(day int) int {
	set := 0
	for _, t := range k.list {
		set |= 1 << t.skies[day]
	}
	return set
}

func (k known) isSurelyDone(day int) bool { return k.roads[day][k.done()] == len(k.list) }

func (k known) mayBeDone(day int) bool { return k.roads[day][k.done()] > 0 }

// firstDay returns the first day at the end of which all layers are bound, as it is asked, or ErrNone.
func firstDay(b api.RollBook, isDone func(k known, day int) bool) (int, api.Errno) {
	k, e := learn(b, true)
	if e != api.OK {
		return 0, e
	}
	for day := range len(k.Days) {
		if isDone(k, day) {
			return day, api.OK
		}
	}
	return 0, api.ErrNone
}

// dayToWater returns the first of the days that are best to water the road, or ErrNone if none is better than to water it on no day.
func (k known) dayToWater() (int, api.Errno) {
	most, best, e := k.leastAtLast(k.book), 0, api.ErrNone
	for day := range len(k.Days) {
		if n := k.leastAtLast(k.watered(day)); n > most {
			most, best, e = n, day, api.OK
		}
	}
	return best, e
}

// leastAtLast returns the least number of layers that are bound at the end of the last day, with the wagons and the skies of the truths on the road of another book.
func (k known) leastAtLast(b *book) int { return k.span(b.atLast).Low }
