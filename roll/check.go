package roll

import "macadam/api"

func isBook(b api.RollBook) bool {
	return areLayers(b.Layers) && areDays(b.Days) && areLooks(b)
}

func areLayers(layers []api.RollLayer) bool {
	if !isWithin(len(layers), 1, api.RollLayers) {
		return false
	}
	for _, l := range layers {
		if !isWithin(l.Needs, 1, api.RollNeeds) || !isWithin(l.Yards, 1, api.RollYards) {
			return false
		}
	}
	return true
}

func areDays(days []api.RollDay) bool {
	if !isWithin(len(days), 1, api.RollDays) {
		return false
	}
	for _, d := range days {
		if !areWagons(d.Wagons) || !isWithin(d.Sky, 1, allSkies) {
			return false
		}
	}
	return true
}

// areWagons subtracts only ends that are within their limits: others might overflow.
func areWagons(s api.Span) bool {
	return isWithin(s.Low, 0, api.RollWagons) && isWithin(s.High, s.Low, api.RollWagons) && s.High-s.Low <= api.RollWide
}

func areLooks(b api.RollBook) bool {
	if len(b.Looks) > api.RollLooks {
		return false
	}
	for _, l := range b.Looks {
		if !isLook(b, l) {
			return false
		}
	}
	return true
}

func isLook(b api.RollBook, l api.RollLook) bool {
	return isDay(b, l.Day) && isWithin(l.Bound, 0, len(b.Layers))
}

// isDay reports whether n is the number of a day.
func isDay(b api.RollBook, n int) bool { return isWithin(n, 0, len(b.Days)-1) }

func isWithin(n, low, high int) bool { return low <= n && n <= high }
