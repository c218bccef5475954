package surveyor

import (
	"macadam/api"
	"macadam/claim"
	"macadam/rut"
	"macadam/stone"
	"macadam/weigh"
)

// The kinds of things that lines tell.
const (
	staffs = iota
	loads
	passes
	clocks
)

// counts is how many there are of each kind.
type counts [4]int

// most is how many of each kind a surveyor can be told.
var most = counts{
	staffs: api.RutStaffs,
	loads:  api.StoneMoves,
	passes: api.WeighPasses,
	clocks: api.ClaimClocks,
}

// state is what a surveyor knows: the setup, what lines told, and the lines that did.
type state struct {
	api.SurveyorSetup
	staffs  []api.RutStaff
	loads   []api.StoneMove
	passes  []api.WeighPass
	clocks  []api.ClaimClock
	journal []string
}

// kept returns a setup that shares no memory with s.
func kept(s api.SurveyorSetup) api.SurveyorSetup {
	s.Miles, s.Days, s.Mends = copied(s.Miles), copied(s.Days), copied(s.Mends)
	s.Heaps, s.Names = copied(s.Heaps), copied(s.Names)
	s.Wagons, s.Stages = copied(s.Wagons), copied(s.Stages)
	return s
}

// copied returns a copy of a list, without room behind its end.
func copied[T any](list []T) []T {
	own := append([]T(nil), list...)
	return own[:len(own):len(own)]
}

func (s *state) told() counts {
	return counts{staffs: len(s.staffs), loads: len(s.loads), passes: len(s.passes), clocks: len(s.clocks)}
}

// ruts returns the surveyor's book of layer 1.
func (s *state) ruts() api.RutBook {
	return api.RutBook{Miles: s.Miles, Wears: s.Wears, Days: s.Days, Mends: s.Mends, Staffs: s.staffs, Act: s.Act}
}

// bridge returns the surveyor's book of layer 2.
func (s *state) bridge() api.WeighBook {
	return api.WeighBook{Off: s.Off, Wagons: s.Wagons, Passes: s.passes, Tolls: s.Tolls}
}

// heaps returns the surveyor's book of layer 3, in which heaps can have any number of cubic yards at last.
func (s *state) heaps() api.StoneBook {
	heaps := make([]api.StoneHeap, 0, len(s.Heaps))
	for _, first := range s.Heaps {
		heaps = append(heaps, api.StoneHeap{First: first, Last: api.Span{Low: 0, High: api.StoneLast}})
	}
	return api.StoneBook{Heaps: heaps, Moves: s.loads, Lies: s.Lies}
}

// coach returns the surveyor's book of layer 6.
func (s *state) coach() api.ClaimBook {
	return api.ClaimBook{Stages: s.Stages, Weathers: s.Weathers, Costs: s.Costs, Clocks: s.clocks, Rate: s.Rate}
}

func (s *state) rightRuts() (bool, api.Errno) { return rut.Right(s.ruts()) }

func (s *state) rightBridge() (bool, api.Errno) { return weigh.Right(s.bridge()) }

func (s *state) rightHeaps() (bool, api.Errno) { return stone.Right(s.heaps()) }

func (s *state) rightCoach() (bool, api.Errno) { return claim.Right(s.coach()) }
