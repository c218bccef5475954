package way

import (
	"slices"

	"macadam/api"
	"macadam/gang"
)

// What has limits.
const (
	countPlaces = iota
	countRoads
	countCoaches
	minutesOfRoad
	minutesOfCoach
)

var limits = [5]api.Span{
	countPlaces:    {Low: 2, High: api.WayPlaces},
	countRoads:     {Low: 1, High: api.WayRoads},
	countCoaches:   {Low: 1, High: api.WayCoaches},
	minutesOfRoad:  {Low: 1, High: api.WayTakes},
	minutesOfCoach: {Low: 0, High: api.WayLimit},
}

func isWithin(n, kind int) bool { return limits[kind].Low <= n && n <= limits[kind].High }

// isNumber reports whether n is the number of one of count things.
func isNumber(n, count int) bool { return 0 <= n && n < count }

func isBook(b api.WayBook) bool {
	return gang.Check(b.Gang) == api.OK && isWithin(b.Places, countPlaces) && areRoads(b) && areCoaches(b)
}

func areRoads(b api.WayBook) bool {
	if !isWithin(len(b.Roads), countRoads) {
		return false
	}
	for n, r := range b.Roads {
		if !arePlaces(r.A, r.B, b.Places) || !areMinutes(r.Takes) || !isOwn(r.Mile, b.Roads[:n:n], len(b.Gang.Miles)) {
			return false
		}
	}
	return true
}

func areCoaches(b api.WayBook) bool {
	if !isWithin(len(b.Coaches), countCoaches) {
		return false
	}
	for _, c := range b.Coaches {
		if !arePlaces(c.From, c.To, b.Places) || !isWithin(c.Limit, minutesOfCoach) {
			return false
		}
	}
	return true
}

func arePlaces(one, two, places int) bool {
	return isNumber(one, places) && isNumber(two, places) && one != two
}

// areMinutes reports whether a road can take as long. Only ends that are within their limits are subtracted: others might overflow.
func areMinutes(s api.Span) bool {
	return isWithin(s.Low, minutesOfRoad) && isWithin(s.High, minutesOfRoad) && s.Low <= s.High && s.High-s.Low <= api.WayWide
}

// isOwn reports whether a road can be a mile beside other roads, or is free.
func isOwn(mile int, others []api.WayRoad, miles int) bool {
	if mile == api.WayFree {
		return true
	}
	return isNumber(mile, miles) && !slices.ContainsFunc(others, func(r api.WayRoad) bool { return r.Mile == mile })
}

// areMiles reports whether a list is of miles.
func areMiles(list []int, miles int) bool {
	for i, mile := range list {
		if !isNumber(mile, miles) || i > 0 && mile <= list[i-1] {
			return false
		}
	}
	return true
}
