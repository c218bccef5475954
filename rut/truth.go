package rut

import "macadam/api"

// place is a mile and a day, at the end of which its ruts are looked at.
type place struct{ mile, day int }

// costs is what a wagon with narrow wheels, one with broad wheels, and a night of frost cost.
type costs [3]int

// frostNights is, of each thing that can be known of frost, how many nights of frost a day has.
var frostNights = [3]api.Span{
	api.RutNone:    {Low: 0, High: 0},
	api.RutPerhaps: {Low: 0, High: 1},
	api.RutSurely:  {Low: 1, High: 1},
}

// book is a valid book in the calculation. Of each place whose mile was mended on its day or before, since is the last day on which it was.
type book struct {
	api.RutBook
	since map[place]int
}

// truth is all truths that have the same costs and the same nights of frost. In them the first depth of a mile does not depend on that of another one, so that those with which all staffs are right are a span for each mile.
type truth struct {
	costs  costs
	frost  [api.RutDays]int
	grown  [api.RutDays + 1]int // by how much a rut that is never mended is deeper before each day
	starts [api.RutMiles]api.Span
}

func prepare(b api.RutBook) *book {
	since := map[place]int{}
	for day := range len(b.Days) {
		for mile := range b.Miles {
			at := place{mile, day}
			if last, mended := since[place{mile, day - 1}]; mended {
				since[at] = last
			}
			for _, m := range b.Mends {
				if (place{m.Mile, m.Day}) == at {
					since[at] = day
				}
			}
		}
	}
	return &book{b, since}
}

// right reports whether there is a truth in which all staffs are right.
func (b *book) right() bool {
	for range b.truths {
		return true
	}
	return false
}

// truths yields all truths in which all staffs are right.
func (b *book) truths(yield func(truth) bool) {
everyCost:
	for c := range b.costs {
		for _, s := range b.Staffs {
			if b.forbids(s, c) {
				continue everyCost
			}
		}
		t := truth{costs: c}
		copy(t.starts[:], b.Miles)
		if !b.nights(t, yield) {
			return
		}
	}
}

// costs yields all that wheels and frost can cost.
func (b *book) costs(yield func(costs) bool) {
	narrow, broad, frost := b.Wears[api.RutNarrow], b.Wears[api.RutBroad], b.Wears[api.RutFrost]
	for n := narrow.Low; n <= narrow.High; n++ {
		for w := broad.Low; w <= broad.High; w++ {
			for f := frost.Low; f <= frost.High; f++ {
				if !yield(costs{n, w, f}) {
					return
				}
			}
		}
	}
}

// forbids reports whether a staff is wrong at these costs, whatever the first depths were, and whichever nights had frost. It saves going through the nights.
func (b *book) forbids(s api.RutStaff, c costs) bool {
	since, mended := b.since[place{s.Mile, s.Day}]
	depth := b.Miles[s.Mile]
	if mended {
		depth = api.Span{}
	}
	for day := since; day <= s.Day; day++ {
		nights := frostNights[b.Days[day].Frost]
		depth.Low += b.deepens(day, nights.Low, c)
		depth.High += b.deepens(day, nights.High, c)
	}
	return s.Read+s.Error < depth.Low || depth.High < s.Read-s.Error
}

// deepens returns by how much a day, with so many nights of frost, deepens each rut.
func (b *book) deepens(day, frost int, c costs) int {
	if c == (costs{}) {
		return 0
	}
	passed := b.Days[day]
	return sum(passed.Narrow*c[api.RutNarrow], passed.Broad*c[api.RutBroad], frost*c[api.RutFrost])
}

// nights goes through the days of t, with and without frost, as it can have been, and yields each truth in which all staffs are right; it reports whether there may be more.
func (b *book) nights(t truth, yield func(truth) bool) bool {
	var pass func(day int) bool
	pass = func(day int) bool {
		if day == len(b.Days) {
			return yield(t)
		}
		starts := t.starts
		known := frostNights[b.Days[day].Frost]
		for frost := known.Low; frost <= known.High; frost++ {
			t.frost[day], t.starts = frost, starts
			t.grown[day+1] = t.grown[day] + b.deepens(day, frost, t.costs)
			if b.heed(&t, day) && !pass(day+1) {
				return false
			}
		}
		return true
	}
	return pass(0)
}

// heed leaves in t the first depths with which the staffs of a day are right; it reports whether each mile has one.
func (b *book) heed(t *truth, day int) bool {
	for _, s := range b.Staffs {
		if s.Day != day {
			continue
		}
		since, mended := b.since[place{s.Mile, day}]
		deeper := t.grown[day+1] - t.grown[since]
		low, high := s.Read-s.Error-deeper, s.Read+s.Error-deeper
		if mended {
			if low > 0 || high < 0 {
				return false
			}
			continue
		}
		start := &t.starts[s.Mile]
		start.Low, start.High = max(start.Low, low), min(start.High, high)
		if start.Low > start.High {
			return false
		}
	}
	return true
}

// depth returns how to tell from a truth how deep the ruts of a place are, at least and at most.
func (b *book) depth(at place) func(*truth) api.Span {
	since, mended := b.since[at]
	return func(t *truth) api.Span {
		deeper := t.grown[at.day+1] - t.grown[since]
		if mended {
			return just(deeper)
		}
		start := t.starts[at.mile]
		return api.Span{Low: start.Low + deeper, High: start.High + deeper}
	}
}

func just(n int) api.Span { return api.Span{Low: n, High: n} }

func sum[T ~int](terms ...T) T {
	var all T
	for _, t := range terms {
		all += t
	}
	return all
}
