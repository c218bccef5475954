package claim

import "macadam/api"

// moment is a stage, and a minute in which the coach comes to its end.
type moment struct{ stage, minute int }

// minutes is in which minute the coach comes to the end of each stage. It is 0 where there is no stage, or the coach has not come yet: no stage takes less than a minute.
type minutes [api.ClaimStages]int

// truth is all truths that have the same weather, the same Rough, and the same minutes: how long horses and stops took tells nothing else.
type truth struct {
	weather int
	rough   [api.ClaimStages]int // 0 where there is no stage
	comes   minutes
}

// book is a valid book in the calculation. Of the moments that were asked for before, wrong is the set of the clocks that are wrong if the coach comes then.
type book struct {
	api.ClaimBook
	wrong map[moment]int
}

func prepare(b api.ClaimBook) *book { return &book{b, map[moment]int{}} }

func (t truth) moment(stage int) moment { return moment{stage, t.comes[stage]} }

// reading is a clock that is held against truths.
type reading api.ClaimClock

func (r reading) isRight(t truth) bool {
	m := t.moment(r.Stage)
	return r.nearest(m.minute) == m
}

// nearest returns, of the moments that the clock allows, the one that is nearest to a minute.
func (r reading) nearest(minute int) moment {
	return moment{r.Stage, max(r.Read-r.Error, min(minute, r.Read+r.Error))}
}

// wrongAt returns the set of the clocks of a stage that are wrong in a truth.
func (b *book) wrongAt(stage int, t truth) int {
	m := t.moment(stage)
	set, isAsked := b.wrong[m]
	if isAsked {
		return set
	}
	for clock, c := range b.Clocks {
		if c.Stage == stage && !reading(c).isRight(t) {
			set |= 1 << clock
		}
	}
	b.wrong[m] = set
	return set
}

// right reports whether there is a truth in which all clocks are right.
func (b *book) right() bool {
	for range b.truths {
		return true
	}
	return false
}

// truths yields all truths in which all clocks are right.
func (b *book) truths(yield func(truth) bool) {
	var drive func(stage int, t truth) bool
	drive = func(stage int, t truth) bool {
		if stage == len(b.Stages) {
			return yield(t)
		}
		smooth, rough := b.smooth(stage, t), b.Stages[stage].Rough
		for n := rough.Low; n <= rough.High; n++ {
			t.rough[stage] = n
		everyMinute:
			for minute := smooth.Low + n; minute <= smooth.High+n; minute++ {
				t.comes[stage] = minute
				if b.wrongAt(stage, t) != 0 {
					continue everyMinute
				}
				if !drive(stage+1, t) {
					return false
				}
			}
		}
		return true
	}
	for weather := range len(b.Costs) {
		if has(b.Weathers, weather) && !drive(0, truth{weather: weather}) {
			return
		}
	}
}

// smooth returns when the coach comes to the end of a stage, at least and at most, if this is smooth, in a truth that is known up to its beginning. Horses and stops can take all that lies between.
func (b *book) smooth(stage int, t truth) api.Span {
	departs, drive, cost := b.departs(stage, t), b.Stages[stage].Drive, b.Costs[t.weather]
	return api.Span{Low: sum(departs.Low, drive.Low, cost), High: sum(departs.High, drive.High, cost)}
}

func (b *book) departs(stage int, t truth) api.Span {
	if t.comes == (minutes{}) {
		return api.Span{}
	}
	came, stop := t.comes[stage-1], b.Stages[stage-1].Stop
	return api.Span{Low: came + stop.Low, High: came + stop.High}
}

// has reports whether n is in a set.
func has(set, n int) bool { return set>>n&1 == 1 }

func sum[T ~int](terms ...T) T {
	var all T
	for _, t := range terms {
		all += t
	}
	return all
}
