package surveyor

import (
	"macadam/api"
	"macadam/claim"
	"macadam/rut"
	"macadam/stone"
	"macadam/weigh"
)

// heed panics unless a layer answered.
func heed(e api.Errno) {
	switch e {
	case api.OK:
	case api.ErrRutAsk, api.ErrStoneAsk, api.ErrWeighAsk, api.ErrClaimAsk:
		panic(api.ErrRange)
	default:
		panic(e)
	}
}

func span(s api.Span, e api.Errno) []int { return list([]int{s.Low, s.High}, e) }

func one(n int, e api.Errno) []int { return list([]int{n}, e) }

func list(all []int, e api.Errno) []int {
	heed(e)
	return all
}

func (s *state) deep(n numbers) []int { return span(rut.Deep(s.ruts(), n[0], n[1])) }

func (s *state) wears(n numbers) []int { return span(rut.Wears(s.ruts(), n[0])) }

func (s *state) frost(n numbers) []int { return one(rut.Frost(s.ruts(), n[0])) }

func (s *state) worse(n numbers) []int { return one(rut.Worse(s.ruts(), n[0])) }

func (s *state) surely(n numbers) []int { return one(rut.Surely(s.ruts(), n[0])) }

func (s *state) bad(n numbers) []int { return list(rut.Bad(s.ruts(), n[0])) }

func (s *state) first(numbers) []int {
	mile, day, e := rut.First(s.ruts())
	return list([]int{mile, day}, e)
}

func (s *state) yards(n numbers) []int { return span(stone.Yards(s.heaps(), n[0])) }

func (s *state) yardsOfLast(numbers) []int { return s.yards(numbers{len(s.loads) - 1}) }

func (s *state) heap(n numbers) []int { return span(stone.Heap(s.heaps(), n[0], n[1])) }

func (s *state) laid(numbers) []int { return span(stone.Laid(s.heaps())) }

func (s *state) wages(n numbers) []int { return span(stone.Owed(s.heaps(), n[0], n[1])) }

func (s *state) liars(numbers) []int { return list(stone.Liars(s.heaps())) }

func (s *state) off(numbers) []int { return span(weigh.Off(s.bridge())) }

func (s *state) tare(n numbers) []int { return span(weigh.Tare(s.bridge(), n[0])) }

func (s *state) weighs(n numbers) []int { return span(weigh.Weighs(s.bridge(), n[0])) }

func (s *state) weighsOfLast(numbers) []int { return s.weighs(numbers{len(s.passes) - 1}) }

func (s *state) pays(n numbers) []int { return span(weigh.Pays(s.bridge(), n[0])) }

func (s *state) back(n numbers) []int { return span(weigh.Back(s.bridge(), n[0])) }

func (s *state) over(numbers) []int { return list(weigh.Over(s.bridge())) }

func (s *state) again(numbers) []int { return one(weigh.Again(s.bridge())) }

func (s *state) comes(n numbers) []int { return span(claim.Comes(s.coach(), n[0])) }

func (s *state) late(n numbers) []int { return span(claim.Late(s.coach(), n[0])) }

func (s *state) blame(numbers) []int { return one(claim.Blame(s.coach())) }

func (s *state) owes(numbers) []int { return span(claim.Owes(s.coach())) }

func (s *state) paid(numbers) []int { return one(claim.Pays(s.coach())) }

// weather returns all weathers of the set that there can have been.
func (s *state) weather(numbers) []int {
	set, e := claim.Weather(s.coach())
	var all []int
	for weather := range s.Costs {
		if set>>weather&1 == 1 {
			all = append(all, weather)
		}
	}
	return list(all, e)
}
