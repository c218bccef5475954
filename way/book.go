package way

import (
	"macadam/api"
	"macadam/gang"
)

// trip is a coach on a night on which some miles are closed.
type trip struct {
	coach  int
	closed set
}

// book is a valid book in the calculation. known has what was calculated before by way.
type book struct {
	api.WayBook
	known map[trip]way
}

func prepare(b api.WayBook) *book { return &book{b, map[trip]way{}} }

// night is one on which some miles are closed.
type night struct {
	*book
	closed set
}

func (b *book) on(closed set) night { return night{b, closed} }

// by returns a night by works that are a plan.
func (b *book) by(works []api.GangWork, n int) night {
	closed, _ := gang.Closed(b.Gang, works, n)
	return b.on(setOf(closed))
}

func (n night) isInTime(coach int) bool {
	w := n.way(trip{coach, n.closed})
	return w.leads() && w.takes(most) <= n.Coaches[coach].Limit
}

// late returns all coaches that are not surely in time.
func (n night) late() []int { return numbers(len(n.Coaches), not(n.isInTime)) }

func (n night) isSafe() bool { return len(n.late()) == 0 }

// canClose reports whether a mile alone can be closed.
func (b *book) canClose(mile int) bool { return b.on(setOf([]int{mile})).isSafe() }
