package claim

import "macadam/api"

func isBook(b api.ClaimBook) bool {
	return areStages(b.Stages) && areWeathers(b) && areClocks(b) && isWithin(b.Rate, 0, api.ClaimRate)
}

func areStages(stages []api.ClaimStage) bool {
	if !isWithin(len(stages), 1, api.ClaimStages) {
		return false
	}
	before := 0
	for _, s := range stages {
		if !isWithin(s.Due, before+1, api.ClaimDue) {
			return false
		}
		if !isSpan(s.Drive, 1, api.ClaimDrive, api.ClaimWide) || !isSpan(s.Rough, 0, api.ClaimRough, api.ClaimWide) || !isSpan(s.Stop, 0, api.ClaimStop, api.ClaimWait) {
			return false
		}
		before = s.Due
	}
	return true
}

// isSpan subtracts only ends that are within their limits: others might overflow.
func isSpan(s api.Span, low, high, apart int) bool {
	return isWithin(s.Low, low, high) && isWithin(s.High, s.Low, high) && s.High-s.Low <= apart
}

func areWeathers(b api.ClaimBook) bool {
	// A set that is not empty, of numbers that the Costs have.
	if !isWithin(b.Weathers, 1, 1<<len(b.Costs)-1) {
		return false
	}
	for _, cost := range b.Costs {
		if !isWithin(cost, 0, api.ClaimCost) {
			return false
		}
	}
	return true
}

func areClocks(b api.ClaimBook) bool {
	if len(b.Clocks) > api.ClaimClocks {
		return false
	}
	for _, c := range b.Clocks {
		if !isClock(b, c) {
			return false
		}
	}
	return true
}

func isClock(b api.ClaimBook, c api.ClaimClock) bool {
	return isStage(b, c.Stage) && isWithin(c.Read, 0, api.ClaimRead) && isWithin(c.Error, 0, api.ClaimError)
}

// isStage reports whether n is the number of a stage.
func isStage(b api.ClaimBook, n int) bool { return isWithin(n, 0, len(b.Stages)-1) }

func isWithin(n, low, high int) bool { return low <= n && n <= high }
