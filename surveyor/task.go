package surveyor

import (
	"strings"

	"macadam/api"
)

// task is a line that a surveyor does.
type task struct {
	*state
	line
}

// demand panics with an error unless something is so.
func demand(isSo func() bool, e api.Errno) {
	if !isSo() {
		panic(e)
	}
}

// do does a line, and returns its answer. It puts back what was if the line cannot be done.
func (s *state) do(text string, mayAsk bool) (said string, e api.Errno) {
	before := *s
	defer func() {
		if reason := recover(); reason != nil {
			*s = before
			e, _ = reason.(api.Errno)
		}
	}()
	t := &task{s, read(text)}
	if t.asks() && !mayAsk {
		panic(api.ErrSurveyorLine)
	}
	demand(t.hasPage, api.ErrFull)
	t.callCarter()
	if !t.asks() {
		t.letIn()
	}
	return answer(t.answer(s, t.numbers)...), api.OK
}

// hasPage reports whether the line could stand in the journal, if it tells something.
func (t *task) hasPage() bool { return t.asks() || len(t.journal) < api.SurveyorJournal }

// callCarter writes the number of the carter whom the line names in the place of the name.
func (t *task) callCarter() {
	at := strings.IndexByte(t.letters, nameOfCarter)
	if at < 0 {
		return
	}
	c := named(t.Names, t.name)
	if c == (carter{}) {
		panic(api.ErrSurveyorUnknown)
	}
	t.numbers[at] = c.number
}

// letIn lets in what the line tells, and writes it into the journal.
func (t *task) letIn() {
	demand(t.isValid, api.ErrRange)
	demand(t.hasRoom, api.ErrFull)
	t.tell(t.state, t.numbers)
	demand(t.canBe, api.ErrSurveyorFalse)
	// Without a copy of the line the journal would keep the whole file of which it may be a part.
	t.journal = append(copied(t.journal), strings.Clone(t.text))
}

// isValid reports whether a surveyor who is told nothing else has valid books.
func (t *task) isValid() bool {
	alone := state{SurveyorSetup: t.SurveyorSetup}
	t.tell(&alone, t.numbers)
	_, e := t.right(&alone)
	return e == api.OK
}

func (t *task) hasRoom() bool {
	for kind, n := range t.told() {
		if n+t.tells[kind] > most[kind] {
			return false
		}
	}
	return true
}

// canBe reports whether the book that has what the line tells can be true.
func (t *task) canBe() bool {
	is, _ := t.right(t.state)
	return is
}
