package rut

import "macadam/api"

func isBook(b api.RutBook) bool {
	return areMiles(b.Miles) && areWears(b.Wears) && areDays(b.Days) && areMends(b) && areStaffs(b) && isWithin(b.Act, 0, api.RutRead)
}

func areMiles(miles []api.Span) bool {
	if !isWithin(len(miles), 1, api.RutMiles) {
		return false
	}
	for _, m := range miles {
		if !isSpan(m, api.RutDeep, api.RutWide) {
			return false
		}
	}
	return true
}

func areWears(wears [3]api.Span) bool {
	for _, w := range wears {
		if !isSpan(w, api.RutWear, api.RutLoose) {
			return false
		}
	}
	return true
}

func areDays(days []api.RutDay) bool {
	if !isWithin(len(days), 1, api.RutDays) {
		return false
	}
	for _, d := range days {
		if !isWithin(d.Narrow, 0, api.RutPasses) || !isWithin(d.Broad, 0, api.RutPasses) || !isWithin(d.Frost, api.RutNone, api.RutSurely) {
			return false
		}
	}
	return true
}

func areMends(b api.RutBook) bool {
	if len(b.Mends) > api.RutMends {
		return false
	}
	for _, m := range b.Mends {
		if !isNumber(m.Mile, len(b.Miles)) || !isNumber(m.Day, len(b.Days)) {
			return false
		}
	}
	return true
}

func areStaffs(b api.RutBook) bool {
	if len(b.Staffs) > api.RutStaffs {
		return false
	}
	for _, s := range b.Staffs {
		if !isStaff(b, s) {
			return false
		}
	}
	return true
}

func isStaff(b api.RutBook, s api.RutStaff) bool {
	return isNumber(s.Mile, len(b.Miles)) && isNumber(s.Day, len(b.Days)) && isWithin(s.Read, 0, api.RutRead) && isWithin(s.Error, 0, api.RutError)
}

// isSpan reports whether a span goes from 0 to most at most, and its ends are no more than wide apart. Only ends that are within their limits are subtracted: others might overflow.
func isSpan(s api.Span, most, wide int) bool {
	return isWithin(s.Low, 0, most) && isWithin(s.High, s.Low, most) && s.High-s.Low <= wide
}

// isNumber reports whether n is the number of one of count things.
func isNumber(n, count int) bool { return isWithin(n, 0, count-1) }

func isWithin(n, low, high int) bool { return low <= n && n <= high }
