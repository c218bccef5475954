package drain

import (
	"slices"

	"macadam/api"
)

// spot is a ditch on a day.
type spot struct{ ditch, day int }

func at(m api.DrainMark) spot { return spot{m.Ditch, m.Day} }

// rains is how much it rains on each day; it is 0 where there is no day.
type rains [api.DrainDays]int

// truth is what the drains are, how much it rained, and what came of it.
type truth struct {
	drains   [api.DrainDitches]int
	rain     rains
	evenings [api.DrainDays]evening
}

// states has, for each state, what its drain can be in truths: the least and the greatest.
var states = [3]api.Span{
	api.DrainBlocked: {Low: blocked, High: blocked},
	api.DrainPerhaps: {Low: blocked, High: open},
	api.DrainOpen:    {Low: open, High: open},
}

// stateOf returns the state whose drain can be just this.
func stateOf(drain api.Span) int {
	all := states
	return slices.Index(all[:], drain)
}

func (t truth) stands(s spot) int { return t.evenings[s.day].stands[s.ditch] }

// gauge is a mark that is held against truths.
type gauge api.DrainMark

func (g gauge) isRight(t truth) bool {
	return isWithin(t.stands(spot{g.Ditch, g.Day}), g.Read-g.Error, g.Read+g.Error)
}

// forbids reports whether a mark of a ditch and a day is wrong in a truth.
func (b *book) forbids(s spot, t truth) bool {
	return slices.ContainsFunc(b.Marks, func(m api.DrainMark) bool { return at(m) == s && !gauge(m).isRight(t) })
}

// right reports whether there is a truth in which all marks are right.
func (b *book) right() bool {
	for range b.truths {
		return true
	}
	return false
}

// truths yields all truths in which all marks are right.
func (b *book) truths(yield func(truth) bool) {
	var t truth
	all := b.rains()
	var settle func(ditch int) bool
	settle = func(ditch int) bool {
		if ditch == len(b.Ditches) {
			return b.inRain(t, all, yield)
		}
		drain := states[b.Ditches[ditch].State]
		for n := drain.Low; n <= drain.High; n++ {
			t.drains[ditch] = n
			if !settle(ditch + 1) {
				return false
			}
		}
		return true
	}
	settle(0)
}

// inRain yields each truth with the drains of t in which all marks are right; it reports whether there may be more.
func (b *book) inRain(t truth, all []rains, yield func(truth) bool) bool {
everyRain:
	for _, rain := range all {
		t.rain = rain
		for day := range len(b.Rain) {
			t.evenings[day] = b.evening(t, day)
			for ditch := range len(b.Ditches) {
				if b.forbids(spot{ditch, day}, t) {
					continue everyRain
				}
			}
		}
		if !yield(t) {
			return false
		}
	}
	return true
}

// rains returns all ways in which it may rain.
func (b *book) rains() []rains {
	all := []rains{{}}
	for day, rain := range b.Rain {
		var longer []rains
		for _, r := range all {
			for n := rain.Low; n <= rain.High; n++ {
				r[day] = n
				longer = append(longer, r)
			}
		}
		all = longer
	}
	return all
}
