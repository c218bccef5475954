package surveyor

import (
	"iter"
	"strconv"
	"strings"

	"macadam/api"
)

// What stands between tokens, and behind a line of a file.
const (
	space = " "
	feed  = '\n'
)

// nothing is the answer that has no numbers.
const nothing = "-"

func isFile(text string) bool { return text == "" || text[len(text)-1] == feed }

// lines yields all lines of a file.
func lines(file string) iter.Seq[string] {
	return func(yield func(string) bool) {
		for rest := file; rest != ""; {
			end := strings.IndexByte(rest, feed)
			if !yield(rest[:end]) {
				return
			}
			rest = rest[end+1:]
		}
	}
}

// tokens returns how to take the tokens of a line, one after the other; it tells whether there was one.
func tokens(line string) func() (string, bool) {
	rest, isLeft := line, true
	return func() (string, bool) {
		if !isLeft {
			return "", false
		}
		token, behind, isMore := strings.Cut(rest, space)
		rest, isLeft = behind, isMore
		return token, true
	}
}

// number returns the number that a token is, and whether it is one.
func number(token string) (int, bool) {
	if token == "" || len(token) > api.SurveyorDigits || len(token) > 1 && token[0] == '0' {
		return 0, false
	}
	n := 0
	for i := range len(token) {
		if !isDigit(token[i]) {
			return 0, false
		}
		n = 10*n + int(token[i]-'0')
	}
	return n, true
}

// answer puts numbers together.
func answer(numbers ...int) string {
	if len(numbers) == 0 {
		return nothing
	}
	var text []byte
	for i, n := range numbers {
		if i > 0 {
			text = append(text, space...)
		}
		text = strconv.AppendInt(text, int64(n), 10)
	}
	return string(text)
}
