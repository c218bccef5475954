package surveyor

import "macadam/api"

// nameOfCarter is the letter of a token that is a carter's name; the tokens of all other letters are numbers.
const nameOfCarter = 'C'

// numbers are the tokens behind the word of a line. A carter's name has the carter's number there.
type numbers [6]int

// work is what a line does that begins with a word: the letters of the tokens behind it, how many of each kind of thing it tells, how it tells them, which book must be true with them, and what it answers.
type work struct {
	word    string
	letters string
	tells   counts
	tell    func(*state, numbers)
	right   func(*state) (bool, api.Errno)
	answer  func(*state, numbers) []int
}

// asks reports whether a line tells nothing.
func (w work) asks() bool { return w.tells == (counts{}) }

// works returns what all lines do.
func works() []work {
	return []work{
		{"staff", "MDRE", counts{staffs: 1}, (*state).staff, (*state).rightRuts, (*state).deep},
		{"dig", "TCQ", counts{loads: 1}, (*state).dig, (*state).rightHeaps, (*state).yardsOfLast},
		{"cart", "FTCQ", counts{loads: 1}, (*state).cart, (*state).rightHeaps, (*state).yardsOfLast},
		{"lay", "FCQ", counts{loads: 1}, (*state).lay, (*state).rightHeaps, (*state).yardsOfLast},
		{"pass", "WLHSEP", counts{passes: 1}, (*state).pass, (*state).rightBridge, (*state).weighsOfLast},
		{"clock", "SRE", counts{clocks: 1}, (*state).clock, (*state).rightCoach, (*state).comes},

		{word: "deep", letters: "MD", answer: (*state).deep},
		{word: "wears", letters: "K", answer: (*state).wears},
		{word: "frost", letters: "D", answer: (*state).frost},
		{word: "worse", letters: "M", answer: (*state).worse},
		{word: "surely", letters: "M", answer: (*state).surely},
		{word: "bad", letters: "D", answer: (*state).bad},
		{word: "first", answer: (*state).first},

		{word: "yards", letters: "I", answer: (*state).yards},
		{word: "heap", letters: "HI", answer: (*state).heap},
		{word: "laid", answer: (*state).laid},
		{word: "wages", letters: "CR", answer: (*state).wages},
		{word: "liars", answer: (*state).liars},

		{word: "off", answer: (*state).off},
		{word: "tare", letters: "W", answer: (*state).tare},
		{word: "weighs", letters: "I", answer: (*state).weighs},
		{word: "pays", letters: "I", answer: (*state).pays},
		{word: "back", letters: "I", answer: (*state).back},
		{word: "over", answer: (*state).over},
		{word: "again", answer: (*state).again},

		{word: "comes", letters: "S", answer: (*state).comes},
		{word: "late", letters: "S", answer: (*state).late},
		{word: "blame", answer: (*state).blame},
		{word: "owes", answer: (*state).owes},
		{word: "paid", answer: (*state).paid},
		{word: "weather", answer: (*state).weather},
	}
}

// rows returns in which row of a table each word stands.
func rows(table []work) map[string]int {
	all := make(map[string]int, len(table))
	for row, w := range table {
		all[w.word] = row
	}
	return all
}

// workOf returns what a line does that begins with a word; it tells whether lines do.
func workOf(word string) (work, bool) {
	table := works()
	row, isWord := rows(table)[word]
	if !isWord {
		return work{}, false
	}
	return table[row], true
}
