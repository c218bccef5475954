package weigh

import "macadam/api"

// reach is the least and the greatest that something is.
type reach api.Span

func (r reach) least() int { return r.Low }

func (r reach) most() int { return r.High }

func (r reach) apart() int { return r.High - r.Low }

// What is told of a pass.
const (
	weighs = iota
	pays
	back
)

// telling is how something is told of a pass: from which ends of what it weighs both ends of it come, and how much it is for a weight.
type telling struct {
	low, high func(reach) int
	of        func(b *book, pass, weight int) int
}

func tellings() [3]telling {
	return [3]telling{
		weighs: {reach.least, reach.most, (*book).itself},
		pays:   {reach.least, reach.most, (*book).toll},
		// The more a wagon weighs, the less it is paid back.
		back: {reach.most, reach.least, (*book).above},
	}
}

func (b *book) itself(_, weight int) int { return weight }

func (b *book) toll(pass, weight int) int {
	t := b.Tolls[b.Wagons[b.Passes[pass].Wagon].Wheel]
	return t.Base + t.Rate*greatest(0, weight-t.Free)
}

// above returns by how much what was paid for a pass is above its toll.
func (b *book) above(pass, weight int) int {
	return greatest(0, b.Passes[pass].Paid-b.toll(pass, weight))
}

// known is a book with all its truths.
type known struct {
	*book
	list []truth
}

// learn returns what is known of a book, unless the book or the question is wrong, or the book cannot be true.
func learn(b api.WeighBook, isQuestion bool) (known, api.Errno) {
	if e := Check(b); e != api.OK {
		return known{}, e
	}
	if !isQuestion {
		return known{}, api.ErrWeighAsk
	}
	k := known{book: prepare(b)}
	for t := range k.truths {
		k.list = append(k.list, t)
	}
	if len(k.list) == 0 {
		return known{}, api.ErrWeighFalse
	}
	return k, api.OK
}

func tell(b api.WeighBook, pass, what int) (api.Span, api.Errno) {
	k, e := learn(b, isNumber(pass, len(b.Passes)))
	if e != api.OK {
		return api.Span{}, e
	}
	return k.told(pass, what), api.OK
}

func (k known) told(pass, what int) api.Span {
	t, weight := tellings()[what], k.weight(pass, tares{})
	return api.Span{Low: t.of(k.book, pass, t.low(weight)), High: t.of(k.book, pass, t.high(weight))}
}

// reach returns the least and the greatest that something is in the settings of a wagon, in all truths that have these tares. Most truths have the setting of the one before.
func (k known) reach(wagon int, given tares, something func(setting) reach) reach {
	var all reach
	var last setting
	for _, t := range k.list {
		s := t.setting(wagon)
		if s == last || !t.has(given) {
			continue
		}
		r := something(s)
		if last == (setting{}) {
			all = r
		} else {
			all = reach{Low: min(all.Low, r.Low), High: greatest(all.High, r.High)}
		}
		last = s
	}
	return all
}

// fault asks the first wagon: all of them are on the same bridge.
func (k known) fault() reach {
	return k.reach(0, tares{}, func(s setting) reach { return reach(just(s.fault)) })
}

func (k known) tare(wagon int) reach {
	return k.reach(wagon, tares{}, func(s setting) reach { return reach(just(s.tare)) })
}

// weight returns what a pass weighs, in all truths that have these tares.
func (k known) weight(pass int, given tares) reach {
	return k.reach(k.Passes[pass].Wagon, given, func(s setting) reach { return k.weights[pass][s] })
}

func (k known) over() []int {
	var passes []int
	for pass := range len(k.Passes) {
		if k.told(pass, back).Low > 0 {
			passes = append(passes, pass)
		}
	}
	return passes[:len(passes):len(passes)]
}

// best returns the wagon that it is best to weigh empty; there is none if all tares are known.
func (k known) best() (wagon int, is bool) {
	least := 0
	for w := range len(k.Wagons) {
		if k.tare(w).apart() == 0 {
			continue
		}
		if worst := k.worst(w); !is || worst < least {
			wagon, least, is = w, worst, true
		}
	}
	return wagon, is
}

// worst returns how far, at the worst, both ends of what all passes weigh are apart once the tare of a wagon is known. Each number of its reach is its tare in some truth: with one more or less of the fault, what the passes leave of it moves by one.
func (k known) worst(wagon int) int {
	var apart []int
	tare := k.tare(wagon)
	for n := tare.Low; n <= tare.High; n++ {
		var given tares
		given[wagon] = n
		apart = append(apart, k.apart(given))
	}
	return greatest(0, apart...)
}

func (k known) apart(given tares) int {
	all := 0
	for pass := range len(k.Passes) {
		all += k.weight(pass, given).apart()
	}
	return all
}
