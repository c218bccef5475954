package stone

import (
	"slices"

	"macadam/api"
)

// loads is a number of cubic yards of each load; it is 0 where there is no load.
type loads [api.StoneMoves]int

// spot is a heap, and a place between loads: behind so many of them.
type spot struct{ heap, behind int }

// truth is all truths in which all loads had the same. In them what was in a heap does not depend on another one, so that left has, for each heap, what there can be in it at last.
type truth struct {
	had  loads
	left [api.StoneHeaps]reach
}

// book is a valid book in the calculation. Tallies that are left out need not be right.
type book struct {
	api.StoneBook
	isLeftOut func(move int) bool
}

// tally is how many cubic yards were told of a load, and by how many these are too many at most.
type tally struct{ told, lie int }

// What a load does to a heap.
const (
	passes = iota // it neither comes from it nor goes to it
	takes
	brings
)

// doing is what a load does to a heap: what is in it behind the load, of what was in it before, and what was in it before, of what is in it behind.
type doing struct {
	behind, before func(held reach, yards int) reach
}

func doings() [3]doing {
	return [3]doing{
		passes: {reach.same, reach.same},
		takes:  {reach.less, reach.more},
		brings: {reach.more, reach.less},
	}
}

// without returns a book that leaves out the tallies of a list.
func without(b api.StoneBook, list []int) *book {
	return &book{b, func(move int) bool { return slices.Contains(list, move) }}
}

func (b *book) does(move, heap int) doing {
	kind := passes
	switch heap {
	case b.Moves[move].From:
		kind = takes
	case b.Moves[move].To:
		kind = brings
	}
	return doings()[kind]
}

func (t tally) isRight(yards int) bool { return isWithin(t.told-yards, 0, t.lie) }

// asked returns what tells whether a load can have had a number of cubic yards, by its tally alone.
func (b *book) asked(move int) func(yards int) bool {
	if b.isLeftOut(move) {
		return func(int) bool { return true }
	}
	m := b.Moves[move]
	return tally{m.Told, b.Lies[m.Carter]}.isRight
}

// right reports whether there is a truth in which all tallies are right that are not left out.
func (b *book) right() bool {
	for range b.truths {
		return true
	}
	return false
}

// truths yields all truths in which all tallies are right that are not left out.
func (b *book) truths(yield func(truth) bool) {
	var t truth
	// What was in the heaps before a load is the same for all numbers that the load can have had.
	held := b.first()
	var cart func(move int) bool
	cart = func(move int) bool {
		if move == len(b.Moves) {
			left, is := b.left(held)
			t.left = left
			return !is || yield(t)
		}
		isAllowed := b.asked(move)
	everyNumber:
		for yards := range api.StoneLoad + 1 {
			if !isAllowed(yards) {
				continue
			}
			t.had[move] = yards
			for heap := range len(b.Heaps) {
				behind := b.does(move, heap).behind(held[spot{heap, move}], yards)
				if behind.isNone() {
					continue everyNumber
				}
				held[spot{heap, move + 1}] = behind
			}
			if !cart(move + 1) {
				return false
			}
		}
		return true
	}
	cart(0)
}

// first returns what is in all heaps before all loads.
func (b *book) first() map[spot]reach {
	held := map[spot]reach{}
	for heap := range len(b.Heaps) {
		held[spot{heap, 0}] = reach(b.Heaps[heap].First)
	}
	return held
}

// left returns what there can be in each heap behind all loads, of what is held by then, and whether there is any such number for all of them.
func (b *book) left(held map[spot]reach) (left [api.StoneHeaps]reach, is bool) {
	for heap := range len(b.Heaps) {
		left[heap] = held[spot{heap, len(b.Moves)}].and(b.Heaps[heap].Last)
		if left[heap].isNone() {
			return left, false
		}
	}
	return left, true
}
