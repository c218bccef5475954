package roll

import "macadam/api"

// road is how many layers are bound, and how many wagons rolled the next one.
type road struct{ bound, rolled int }

// times is how often something befell each layer; it is 0 where there is no layer.
type times [api.RollLayers]int

// book is a valid book in the calculation; becomes tells what the sky of a day is like on the road.
type book struct {
	api.RollBook
	becomes func(day, sky int) int
}

func prepare(b api.RollBook) *book {
	return &book{b, func(_, sky int) int { return sky }}
}

// watered returns the book in which the road is watered on a day.
func (b *book) watered(day int) *book {
	return &book{b.RollBook, func(n, sky int) int {
		if n == day && sky == api.RollDry {
			return api.RollDamp
		}
		return sky
	}}
}

// done is the road on which all layers are bound.
func (b *book) done() road { return road{bound: len(b.Layers)} }

// layer is the one that is not bound; its methods return what the road is like after a day.
type layer api.RollLayer

func (l layer) rests(r road, _ int) road { return r }

func (l layer) isRolled(r road, wagons int) road {
	r.rolled += wagons
	if r.rolled >= l.Needs {
		return road{bound: r.bound + 1}
	}
	return r
}

func (l layer) isLost(r road, _ int) road { return road{bound: r.bound} }

// effect is what a sky does to the layer that is not bound, and how often this is lost then.
type effect struct {
	after func(l layer, r road, wagons int) road
	lost  int
}

// effects returns the effect of each sky.
func effects() [3]effect {
	return [3]effect{
		api.RollDry:  {after: layer.rests},
		api.RollDamp: {after: layer.isRolled},
		api.RollWet:  {after: layer.isLost, lost: 1},
	}
}

// pass adds what comes of the wagons and the sky of a day to a truth, of which all is known that came before.
func (b *book) pass(t *truth, day int) {
	r := t.before(day)
	if r == b.done() {
		t.ends[day] = r
		return
	}
	// A layer lies on the road if it was laid once more than it was lost.
	if t.laid[r.bound] == t.lost[r.bound] {
		t.laid[r.bound]++
	}
	x := effects()[b.becomes(day, t.skies[day])]
	t.lost[r.bound] += x.lost
	t.ends[day] = x.after(layer(b.Layers[r.bound]), r, t.wagons[day])
}

// before returns what the road was like before a day. On the first day, and on no other one, nothing was laid before.
func (t *truth) before(day int) road {
	if t.laid == (times{}) {
		return road{}
	}
	return t.ends[day-1]
}

// atLast returns how many layers are bound at the end of the last day, with the wagons and the skies of a truth.
func (b *book) atLast(t truth) int {
	again := truth{wagons: t.wagons, skies: t.skies}
	for day := range len(b.Days) {
		b.pass(&again, day)
	}
	return again.ends[len(b.Days)-1].bound
}

// yards returns how many cubic yards all layers have that were laid, or lost, so often.
func (b *book) yards(often times) int {
	for n, l := range b.Layers {
		often[n] *= l.Yards
	}
	return sum(often[:]...)
}

func sum[T ~int](terms ...T) T {
	var all T
	for _, t := range terms {
		all += t
	}
	return all
}
