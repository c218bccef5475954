package toll

// firsts returns all passages with which journeys of a wagon begin in a truth.
func (b *book) firsts(t truth, wagon int) []int {
	return b.passages(func(n int) bool { return b.Passages[n].Wagon == wagon && t.begins(n) })
}

// journey returns all passages of the journey that begins with a passage.
func (b *book) journey(t truth, first int) []int {
	return b.passages(func(n int) bool { return t[n] == first })
}

// owes returns what all journeys of a wagon owe together, at an end of what its passes weigh.
func (b *book) owes(t truth, wagon, at int) int {
	all := 0
	for _, first := range b.firsts(t, wagon) {
		all += b.dearest(b.journey(t, first), at)
	}
	return all
}

// dearest returns the greatest toll of some passages.
func (b *book) dearest(passages []int, at int) int {
	var tolls []int
	for _, n := range passages {
		tolls = append(tolls, b.toll(n, at))
	}
	return greatest(0, tolls...)
}

func (b *book) chargedTwice(t truth, n int) bool {
	if b.Passages[n].Paid == 0 {
		return false
	}
	for _, before := range b.journey(t, t[n]) {
		if before < n && b.Passages[before].Paid > 0 {
			return true
		}
	}
	return false
}

// changed reports whether a wagon changed wheels: on some journey it was not seen with those of the first passage.
func (b *book) changed(t truth, wagon int) bool {
	return len(b.passages(func(n int) bool {
		return b.Passages[n].Wagon == wagon && b.Passages[n].Seen != b.Passages[t[n]].Seen
	})) > 0
}
