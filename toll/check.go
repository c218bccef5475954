package toll

import (
	"macadam/api"
	"macadam/weigh"
)

// What has limits.
const (
	countPassages = iota
	numberOfGate
	wheelsSeen
	stateOfNew
	pencePaid
)

var limits = [5]api.Span{
	countPassages: {Low: 0, High: api.TollPassages},
	numberOfGate:  {Low: 0, High: api.TollGates},
	wheelsSeen:    {Low: api.WeighNarrow, High: api.WeighBroad},
	stateOfNew:    {Low: api.TollGoes, High: api.TollBegins},
	pencePaid:     {Low: 0, High: api.TollPaid},
}

func isWithin(n, kind int) bool { return limits[kind].Low <= n && n <= limits[kind].High }

// isNumber reports whether n is the number of one of count things.
func isNumber(n, count int) bool { return 0 <= n && n < count }

func isBook(b api.TollBook) bool {
	if weigh.Check(b.Weigh) != api.OK || !isWithin(len(b.Passages), countPassages) {
		return false
	}
	for _, p := range b.Passages {
		if !isPassage(b.Weigh, p) {
			return false
		}
	}
	return true
}

func isPassage(b api.WeighBook, p api.TollPassage) bool {
	return isWithin(p.Gate, numberOfGate) && isNumber(p.Wagon, len(b.Wagons)) && isPassOf(b, p.Pass, p.Wagon) &&
		isWithin(p.Seen, wheelsSeen) && isWithin(p.New, stateOfNew) && isWithin(p.Paid, pencePaid)
}

func isPassOf(b api.WeighBook, pass, wagon int) bool {
	return isNumber(pass, len(b.Passes)) && b.Passes[pass].Wagon == wagon
}
