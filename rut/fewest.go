package rut

import (
	"iter"
	"slices"

	"macadam/api"
)

// rightWithout reports whether the book can be true without the staffs of a list.
func (b *book) rightWithout(list []int) bool {
	var kept []api.RutStaff
	for number, s := range b.Staffs {
		if !slices.Contains(list, number) {
			kept = append(kept, s)
		}
	}
	less := *b
	less.Staffs = kept
	return less.right()
}

// fewest returns the shortest list of numbers below count that is enough, the first one of several.
func fewest(count int, enough func(list []int) bool) []int {
	for length := range count + 1 {
		for list := range lists(count, length) {
			if enough(list) {
				return list
			}
		}
	}
	return nil
}

// lists yields all strictly increasing lists of so many numbers below count, in their order.
func lists(count, length int) iter.Seq[[]int] {
	return func(yield func([]int) bool) {
		var goOn func(list []int) bool
		goOn = func(list []int) bool {
			if len(list) == length {
				return yield(list)
			}
			next := 0
			if len(list) > 0 {
				next = list[len(list)-1] + 1
			}
			for n := next; n < count; n++ {
				// Lists share their beginnings: without room behind its end, append makes a new one.
				if !goOn(append(list[:len(list):len(list)], n)) {
					return false
				}
			}
			return true
		}
		goOn(nil)
	}
}
