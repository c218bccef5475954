package way

import (
	"cmp"
	"iter"
	"slices"

	"macadam/api"
)

// places is which places were passed.
type places [api.WayPlaces]bool

// way is a way until a place: the numbers of its roads, and all places that it passed, the first and this one, too.
type way struct {
	*book
	path   []int
	passed places
	place  int
}

// leads reports whether w is a way: its zero value, which stands for none, passed nowhere.
func (w way) leads() bool { return w.passed != places{} }

// takes returns how long a way takes, at an end of what is known.
func (w way) takes(end int) int {
	var minutes []int
	for _, n := range w.path {
		minutes = append(minutes, ends()[end](road(w.Roads[n])))
	}
	return sum(minutes...)
}

// isQuicker reports whether w is the better one of two ways of a coach.
func (w way) isQuicker(other way) bool {
	return cmp.Or(
		cmp.Compare(w.takes(most), other.takes(most)),
		cmp.Compare(len(w.path), len(other.path)),
		slices.Compare(w.path, other.path),
	) < 0
}

// along returns the way that goes on along a road, and whether it can: to a place that it has not passed.
func (w way) along(n int) (way, bool) {
	place, is := road(w.Roads[n]).across(w.place)
	if !is || w.passed[place] {
		return way{}, false
	}
	// Ways share their beginnings: without room behind its end, append makes a new list of it.
	w.path = append(w.path[:len(w.path):len(w.path)], n)
	w.passed[place] = true
	w.place = place
	return w, true
}

// goal is what is looked for among all ways.
type goal struct{ isBetter func(w, other way) bool }

func quickest() goal { return goal{way.isQuicker} }

// way returns the coach's way, or the zero value if it has none.
func (b *book) way(t trip) way {
	best, is := b.known[t]
	if is {
		return best
	}
	g := quickest()
	for w := range b.ways(t) {
		if !best.leads() || g.isBetter(w, best) {
			best = w
		}
	}
	b.known[t] = best
	return best
}

// ways yields all ways of a coach.
func (b *book) ways(t trip) iter.Seq[way] {
	return func(yield func(way) bool) {
		from, to := b.Coaches[t.coach].From, b.Coaches[t.coach].To
		closed := numbers(len(b.Gang.Miles), t.closed.has)
		var goOn func(w way) bool
		goOn = func(w way) bool {
			if w.place == to {
				return yield(w)
			}
		everyRoad:
			for n, r := range b.Roads {
				for _, mile := range closed {
					if r.Mile == mile {
						continue everyRoad
					}
				}
				if next, is := w.along(n); is && !goOn(next) {
					return false
				}
			}
			return true
		}
		w := way{book: b, place: from}
		w.passed[from] = true
		goOn(w)
	}
}
