package surveyor

import (
	"strings"

	"macadam/api"
)

// line is a text that a surveyor does: the work that its word leads to, and the tokens behind this.
type line struct {
	work
	text    string
	name    string
	numbers numbers
}

// read returns the line of a text; it panics unless this has the form.
func read(text string) line {
	next := tokens(text)
	word, _ := next()
	w, isWord := workOf(word)
	l := line{work: w, text: text}
	if len(text) > api.SurveyorLine || strings.IndexByte(text, feed) >= 0 || !isWord || !l.take(next) {
		panic(api.ErrSurveyorLine)
	}
	return l
}

// take takes all tokens behind the word; it reports whether they are such as the work's letters ask for. A token that is missing is empty, as neither a name nor a number is.
func (l *line) take(next func() (string, bool)) bool {
	taken := 0
everyLetter:
	for i := range len(l.letters) {
		token, _ := next()
		switch l.letters[i] {
		case nameOfCarter:
			if token == "" {
				break everyLetter
			}
			l.name = token
		default:
			n, isNumber := number(token)
			if !isNumber {
				break everyLetter
			}
			l.numbers[i] = n
		}
		taken++
	}
	_, isMore := next()
	return taken == len(l.letters) && !isMore
}
