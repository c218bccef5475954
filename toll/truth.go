package toll

import "macadam/api"

// twice is how often a journey passes a gate, at most.
const twice = 2

// truth is all truths that have the same journeys: for each passage, the one with which its journey begins. In them each pass weighs all that it can, whatever the others weigh.
type truth [api.TollPassages]int

func (t truth) begins(n int) bool { return t[n] == n }

// times is how often a journey passes each gate.
type times [api.TollGates + 1]int

// journey is one until a passage: the passage with which it began, and how often it passed each gate. The zero value is none.
type journey struct {
	first int
	times times
}

// beginnings returns whether a journey begins with the passage behind j: all that can be so. With the first passage of a wagon one does.
func (j journey) beginnings(isNew int) []bool {
	switch {
	case isNew == api.TollBegins || j.times == (times{}):
		return []bool{true}
	case isNew == api.TollGoes:
		return []bool{false}
	default:
		return []bool{false, true}
	}
}

// behind returns the journey of the passage n: a new one that begins, or j.
func (j journey) behind(n, gate int, begins bool) journey {
	if begins {
		j = journey{first: n}
	}
	j.times[gate]++
	return j
}

func (j journey) canGoOn(gate int) bool { return j.times[gate] <= twice }

// truths yields all truths.
func (b *book) truths(yield func(truth) bool) {
	var t truth
	var goOn func(n int, last [api.WeighWagons]journey) bool
	goOn = func(n int, last [api.WeighWagons]journey) bool {
		if n == len(b.Passages) {
			return yield(t)
		}
		p := b.Passages[n]
		before := last[p.Wagon]
	everyBeginning:
		for _, begins := range before.beginnings(p.New) {
			j := before.behind(n, p.Gate, begins)
			for gate := range j.times {
				if b.forbids(stop{p.Wagon, gate}, j.canGoOn) {
					continue everyBeginning
				}
			}
			t[n], last[p.Wagon] = j.first, j
			if !goOn(n+1, last) {
				return false
			}
		}
		return true
	}
	goOn(0, [api.WeighWagons]journey{})
}

// forbids reports whether a journey of a wagon cannot be because of a gate. One that the wagon passes no more than twice, whatever its journeys are, forbids none.
func (b *book) forbids(s stop, canGoOn func(gate int) bool) bool {
	return b.often(s) > twice && !canGoOn(s.gate)
}
