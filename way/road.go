package way

import "macadam/api"

type road api.WayRoad

func (r road) low() int { return r.Takes.Low }

func (r road) high() int { return r.Takes.High }

// Both ends of how long a road takes.
const (
	least = iota
	most
)

func ends() [2]func(road) int {
	return [2]func(road) int{least: road.low, most: road.high}
}

// across returns the place to which a road leads from another one, and whether it does.
func (r road) across(place int) (int, bool) {
	switch place {
	case r.A:
		return r.B, true
	case r.B:
		return r.A, true
	}
	return 0, false
}

func sum[T ~int](terms ...T) T {
	var all T
	for _, t := range terms {
		all += t
	}
	return all
}
