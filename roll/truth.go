package roll

import "macadam/api"

// allSkies is the set of all skies.
const allSkies = 1<<api.RollDry | 1<<api.RollDamp | 1<<api.RollWet

// truth is how many wagons pass on each day, and its sky, and what comes of them: what the road is like at the end of each day, and how often each layer was laid and lost on all days together.
type truth struct {
	wagons, skies [api.RollDays]int
	ends          [api.RollDays]road
	laid, lost    times
}

// sight is a look that is held against truths.
type sight api.RollLook

func (s sight) isRight(t truth) bool { return t.ends[s.Day].bound == s.Bound }

// right reports whether there is a truth in which all looks are right.
func (b *book) right() bool {
	for range b.truths {
		return true
	}
	return false
}

// truths yields all truths in which all looks are right.
func (b *book) truths(yield func(truth) bool) {
	var live func(day int, t truth) bool
	live = func(day int, t truth) bool {
		if day == len(b.Days) {
			return yield(t)
		}
		wagons := b.Days[day].Wagons
		for n := wagons.Low; n <= wagons.High; n++ {
			t.wagons[day] = n
		everySky:
			for sky := range len(effects()) {
				if !has(b.Days[day].Sky, sky) {
					continue
				}
				evening := t
				evening.skies[day] = sky
				b.pass(&evening, day)
				for _, l := range b.Looks {
					if l.Day == day && !sight(l).isRight(evening) {
						continue everySky
					}
				}
				if !live(day+1, evening) {
					return false
				}
			}
		}
		return true
	}
	live(0, truth{})
}

// has reports whether n is in a set.
func has(set, n int) bool { return set>>n&1 == 1 }
