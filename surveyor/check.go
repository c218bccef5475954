package surveyor

import (
	"macadam/api"
	"macadam/claim"
	"macadam/rut"
	"macadam/stone"
	"macadam/weigh"
)

// carter is the name and the number of a carter.
type carter struct {
	name   string
	number int
}

// named returns the first carter of a name; there is none without a name.
func named(names []string, name string) carter {
	for n, own := range names {
		if own == name {
			return carter{name, n}
		}
	}
	return carter{}
}

func isSetup(s api.SurveyorSetup) bool {
	untold := state{SurveyorSetup: s}
	return rut.Check(untold.ruts()) == api.OK && weigh.Check(untold.bridge()) == api.OK &&
		stone.Check(untold.heaps()) == api.OK && claim.Check(untold.coach()) == api.OK && areNames(s.Names)
}

// areNames reports whether a list is of names, no two of them the same.
func areNames(names []string) bool {
	if len(names) == 0 || len(names) > api.SurveyorNames {
		return false
	}
	for n, name := range names {
		if !isName(name) || named(names, name) != (carter{name, n}) {
			return false
		}
	}
	return true
}

func isName(text string) bool {
	if text == "" || len(text) > api.MaxName || isDigit(text[0]) {
		return false
	}
	for i := range len(text) {
		if !isLetter(text[i]) && !isDigit(text[i]) {
			return false
		}
	}
	return true
}

func isLetter(b byte) bool { return 'a' <= b && b <= 'z' }

func isDigit(b byte) bool { return '0' <= b && b <= '9' }
