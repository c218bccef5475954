package weigh

import (
	"iter"

	"macadam/api"
)

// setting is the bridge's fault, and the tare of a wagon on it. No wagon weighs nothing: the zero value is none.
type setting struct{ fault, tare int }

// tares is the tare of each wagon; it is 0 where it is not known, or there is no wagon.
type tares [api.WeighWagons]int

// truth is all truths that have the same fault and the same tares. In them the load of a pass does not depend on that of another one, so that book.weights has those with which all passes are right.
type truth struct {
	fault int
	tares tares
}

// book is a valid book in the calculation. For each pass, weights is what it weighs in the settings in which it is right with some load.
type book struct {
	api.WeighBook
	weights []map[setting]reach
}

// weighing is a pass that is held against settings.
type weighing api.WeighPass

func prepare(b api.WeighBook) *book {
	weights := make([]map[setting]reach, len(b.Passes))
	for pass := range len(b.Passes) {
		w := weighing(b.Passes[pass])
		weights[pass] = map[setting]reach{}
		for s := range settings(b.Off, b.Wagons[w.Wagon].Tare) {
			if r, is := w.weights(s); is {
				weights[pass][s] = r
			}
		}
	}
	return &book{b, weights}
}

func settings(fault, tare api.Span) iter.Seq[setting] {
	return func(yield func(setting) bool) {
		for f := fault.Low; f <= fault.High; f++ {
			for t := tare.Low; t <= tare.High; t++ {
				if !yield(setting{f, t}) {
					return
				}
			}
		}
	}
}

// weights returns what the pass can weigh in a setting if it is right, and whether there is any such weight.
func (w weighing) weights(s setting) (reach, bool) {
	shown := w.Shown - s.fault
	r := reach{
		Low:  greatest(s.tare+w.Load.Low, shown-w.Error),
		High: min(s.tare+w.Load.High, shown+w.Error),
	}
	return r, r.Low <= r.High
}

func (w weighing) isRight(t truth) bool {
	_, is := w.weights(t.setting(w.Wagon))
	return is
}

func (t truth) setting(wagon int) setting { return setting{t.fault, t.tares[wagon]} }

// has reports whether t has all tares of those that are known.
func (t truth) has(known tares) bool {
	if known == (tares{}) {
		return true
	}
	for wagon, tare := range known {
		if tare != 0 && tare != t.tares[wagon] {
			return false
		}
	}
	return true
}

// right reports whether there is a truth in which all passes are right.
func (b *book) right() bool {
	for range b.truths {
		return true
	}
	return false
}

// truths yields all truths in which all passes are right.
func (b *book) truths(yield func(truth) bool) {
	for fault := b.Off.Low; fault <= b.Off.High; fault++ {
		if !b.atFault(truth{fault: fault}, yield) {
			return
		}
	}
}

// atFault goes through the wagons, with all tares that they can have, and yields each truth that has the fault of t and in which all passes are right; it reports whether there may be more.
func (b *book) atFault(t truth, yield func(truth) bool) bool {
	var draw func(wagon int) bool
	draw = func(wagon int) bool {
		if wagon == len(b.Wagons) {
			return yield(t)
		}
		tare := b.Wagons[wagon].Tare
	everyTare:
		for n := tare.Low; n <= tare.High; n++ {
			t.tares[wagon] = n
			for pass := range len(b.Passes) {
				if b.Passes[pass].Wagon == wagon && b.forbids(pass, t.setting(wagon)) {
					continue everyTare
				}
			}
			if !draw(wagon + 1) {
				return false
			}
		}
		return true
	}
	return draw(0)
}

// forbids reports whether a pass is wrong in a setting, whatever its load was.
func (b *book) forbids(pass int, s setting) bool {
	_, is := b.weights[pass][s]
	return !is
}

func just(n int) api.Span { return api.Span{Low: n, High: n} }

func greatest[T ~int](first T, others ...T) T {
	most := first
	for _, n := range others {
		if n > most {
			most = n
		}
	}
	return most
}
