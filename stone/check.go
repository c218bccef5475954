package stone

import "macadam/api"

func isBook(b api.StoneBook) bool {
	return areHeaps(b.Heaps) && areMoves(b.Moves, len(b.Heaps)) && areLies(b.Lies)
}

func areHeaps(heaps []api.StoneHeap) bool {
	if !isWithin(len(heaps), 1, api.StoneHeaps) {
		return false
	}
	for _, h := range heaps {
		if !isSpan(h.First, api.StoneFirst) || h.First.High-h.First.Low > api.StoneWide || !isSpan(h.Last, api.StoneLast) {
			return false
		}
	}
	return true
}

func areMoves(moves []api.StoneMove, heaps int) bool {
	if len(moves) > api.StoneMoves {
		return false
	}
	for _, m := range moves {
		if !isEnd(m.From, heaps) || !isEnd(m.To, heaps) || m.From == m.To {
			return false
		}
		if !isNumber(m.Carter, api.StoneCarters) || !isWithin(m.Told, 0, api.StoneLoad) {
			return false
		}
	}
	return true
}

// isEnd reports whether a load can come from there, or go there.
func isEnd(n, heaps int) bool { return n == api.StoneOut || isNumber(n, heaps) }

func areLies(lies [api.StoneCarters]int) bool {
	for _, lie := range lies {
		if !isWithin(lie, 0, api.StoneLie) {
			return false
		}
	}
	return true
}

// isSpan reports whether a span goes from 0 to most.
func isSpan(s api.Span, most int) bool {
	return isWithin(s.Low, 0, most) && isWithin(s.High, s.Low, most)
}

// isNumber reports whether n is the number of one of count things.
func isNumber(n, count int) bool { return isWithin(n, 0, count-1) }

func isWithin(n, low, high int) bool { return low <= n && n <= high }
