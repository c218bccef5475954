package stone

// lists returns all strictly increasing lists of the numbers of count things, the fewest first: behind all lists there are so far, those that have one number more.
func lists(count int) [][]int {
	all := [][]int{nil}
	for i := 0; i < len(all); i++ {
		// Without room behind its end, append makes a new list of it.
		list := all[i][:len(all[i]):len(all[i])]
		for n := follow(list); n < count; n++ {
			all = append(all, append(list, n))
		}
	}
	return all
}

// follow returns the least number that a list can go on with.
func follow(list []int) int {
	if len(list) == 0 {
		return 0
	}
	return list[len(list)-1] + 1
}
