package claim

// late returns by how many minutes the coach is late at a stage.
func (b *book) late(stage int, t truth) int {
	return max(0, t.comes[stage]-b.Stages[stage].Due)
}

// lateAtLast returns by how many minutes the coach is late at the last stage.
func (b *book) lateAtLast(t truth) int { return b.late(len(b.Stages)-1, t) }

func (t truth) allRough() int { return sum(t.rough[:]...) }

// isToBlame reports whether the road is: on a smooth one the coach would not be late.
func (b *book) isToBlame(t truth) bool {
	return isWithin(b.lateAtLast(t), 1, t.allRough())
}

func (b *book) owes(t truth) int {
	return b.Rate * min(b.lateAtLast(t), t.allRough())
}

// pays returns what is paid: only a road that surely is to blame pays, and no more than it surely owes.
func (k known) pays() int {
	if k.where(k.isToBlame) != inEach {
		return 0
	}
	return k.span(question{number: (*book).owes}).Low
}
