package toll

import (
	"macadam/api"
	"macadam/weigh"
)

// stop is a gate that a wagon passes.
type stop struct{ wagon, gate int }

// book is a valid book in the calculation. weights is what each pass weighs; counted has what was calculated before by often.
type book struct {
	api.TollBook
	weights []reach
	counted map[stop]int
}

// prepare returns a book in the calculation, of one whose passes over the bridge can all be right.
func prepare(b api.TollBook) *book {
	var weights []reach
	for pass := range len(b.Weigh.Passes) {
		s, _ := weigh.Weighs(b.Weigh, pass)
		weights = append(weights, reach(s))
	}
	return &book{b, weights, map[stop]int{}}
}

func (b *book) stop(n int) stop { return stop{b.Passages[n].Wagon, b.Passages[n].Gate} }

// passages returns all passages that are so.
func (b *book) passages(isSo func(n int) bool) []int { return numbers(len(b.Passages), isSo) }

// often returns how often a wagon passes a gate, on all of its journeys.
func (b *book) often(s stop) int {
	times, is := b.counted[s]
	if !is {
		times = len(b.passages(func(n int) bool { return b.stop(n) == s }))
		b.counted[s] = times
	}
	return times
}

// toll returns the toll of a passage, at an end of what its pass weighs.
func (b *book) toll(n, at int) int {
	p := b.Passages[n]
	t := b.Weigh.Tolls[p.Seen]
	return t.Base + t.Rate*greatest(0, ends()[at].of(b.weights[p.Pass])-t.Free)
}

// paid returns what was paid at all passages of a wagon.
func (b *book) paid(wagon int) int {
	all := 0
	for _, p := range b.Passages {
		if p.Wagon == wagon {
			all += p.Paid
		}
	}
	return all
}
