package gang

import "macadam/api"

func isBook(b api.GangBook) bool {
	return areMiles(b.Miles) && areGangs(b.Gangs, len(b.Miles)) && isWithin(b.Nights, 1, api.GangNights)
}

func areMiles(miles []api.GangMile) bool {
	if !isWithin(len(miles), 1, api.GangMiles) {
		return false
	}
	for _, m := range miles {
		// Mails may have nights that the book has not.
		if !isSpan(m.Needs, api.GangNeeds) || !isWithin(m.Mails, 0, 1<<api.GangNights-1) {
			return false
		}
	}
	return true
}

func areGangs(gangs []api.GangGang, miles int) bool {
	if !isWithin(len(gangs), 1, api.GangGangs) {
		return false
	}
	for _, g := range gangs {
		if !isNumber(g.From, miles) || !isNumber(g.To, miles) || g.From > g.To || !isSpan(g.Works, api.GangWorks) {
			return false
		}
	}
	return true
}

// isSpan reports whether a span goes from 1 to most at most, and its ends are not too far apart. Only ends that are within their limits are subtracted: others might overflow.
func isSpan(s api.Span, most int) bool {
	return isWithin(s.Low, 1, most) && isWithin(s.High, s.Low, most) && s.High-s.Low <= api.GangWide
}

// isNumber reports whether n is the number of one of count things.
func isNumber(n, count int) bool { return isWithin(n, 0, count-1) }

func isWithin(n, low, high int) bool { return low <= n && n <= high }
