package drain

import "macadam/api"

func isBook(b api.DrainBook) bool {
	return areDitches(b.Ditches) && areRains(b.Rain) && areMarks(b)
}

func areDitches(ditches []api.DrainDitch) bool {
	if !isWithin(len(ditches), 1, api.DrainDitches) {
		return false
	}
	for n, d := range ditches {
		if !isWithin(d.Holds, 0, api.DrainHolds) || !isWithin(d.Lets, 0, api.DrainLets) {
			return false
		}
		if !isWithin(d.State, api.DrainBlocked, api.DrainOpen) {
			return false
		}
		if d.Down != api.DrainRiver && !isWithin(d.Down, n+1, len(ditches)-1) {
			return false
		}
	}
	return true
}

func areRains(rains []api.Span) bool {
	if !isWithin(len(rains), 1, api.DrainDays) {
		return false
	}
	for _, s := range rains {
		// Only ends that are within their limits are subtracted: others might overflow.
		if !isWithin(s.Low, 0, api.DrainRain) || !isWithin(s.High, s.Low, api.DrainRain) || s.High-s.Low > api.DrainWide {
			return false
		}
	}
	return true
}

func areMarks(b api.DrainBook) bool {
	if len(b.Marks) > api.DrainMarks {
		return false
	}
	for _, m := range b.Marks {
		if !isMark(b, m) {
			return false
		}
	}
	return true
}

func isMark(b api.DrainBook, m api.DrainMark) bool {
	return isSpot(b, at(m)) && isWithin(m.Read, 0, api.DrainHolds) && isWithin(m.Error, 0, api.DrainError)
}

func isSpot(b api.DrainBook, s spot) bool {
	return isNumber(s.ditch, len(b.Ditches)) && isNumber(s.day, len(b.Rain))
}

// isNumber reports whether n is the number of one of count things.
func isNumber(n, count int) bool { return isWithin(n, 0, count-1) }

func isWithin(n, low, high int) bool { return low <= n && n <= high }
