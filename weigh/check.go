package weigh

import "macadam/api"

func isBook(b api.WeighBook) bool {
	return isSpan(b.Off, -api.WeighOff, api.WeighOff, api.WeighLean) && areWagons(b.Wagons) && arePasses(b) && areTolls(b.Tolls)
}

func areWagons(wagons []api.WeighWagon) bool {
	if !isWithin(len(wagons), 1, api.WeighWagons) {
		return false
	}
	for _, w := range wagons {
		if !isSpan(w.Tare, 1, api.WeighTare, api.WeighWide) || !isWithin(w.Wheel, api.WeighNarrow, api.WeighBroad) {
			return false
		}
	}
	return true
}

func arePasses(b api.WeighBook) bool {
	if len(b.Passes) > api.WeighPasses {
		return false
	}
	for _, p := range b.Passes {
		if !isPass(b, p) {
			return false
		}
	}
	return true
}

func isPass(b api.WeighBook, p api.WeighPass) bool {
	return isNumber(p.Wagon, len(b.Wagons)) && isSpan(p.Load, 0, api.WeighLoad, api.WeighWide) &&
		isWithin(p.Shown, 0, api.WeighShown) && isWithin(p.Error, 0, api.WeighError) && isWithin(p.Paid, 0, api.WeighPaid)
}

func areTolls(tolls [3]api.WeighToll) bool {
	for _, t := range tolls {
		if !isWithin(t.Free, 0, api.WeighFree) || !isWithin(t.Base, 0, api.WeighBase) || !isWithin(t.Rate, 0, api.WeighRate) {
			return false
		}
	}
	return true
}

// isSpan reports whether a span goes from least to most, and its ends are no more than wide apart. Only ends that are within their limits are subtracted: others might overflow.
func isSpan(s api.Span, least, most, wide int) bool {
	return isWithin(s.Low, least, most) && isWithin(s.High, s.Low, most) && s.High-s.Low <= wide
}

// isNumber reports whether n is the number of one of count things.
func isNumber(n, count int) bool { return isWithin(n, 0, count-1) }

func isWithin(n, low, high int) bool { return low <= n && n <= high }
