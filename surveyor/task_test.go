package surveyor

import (
	"slices"
	"testing"

	"macadam/api"
)

// TestFullJournal has a journal of 149 lines, and of 150: no line can be told behind these. As there is room for far fewer things the lines are written into it here (P11.2).
func TestFullJournal(t *testing.T) {
	y, e := New(api.SurveyorSetup{
		Miles: make([]api.Span, 1), Days: make([]api.RutDay, 1), Heaps: make([]api.Span, 1), Names: []string{"ann"},
		Wagons: []api.WeighWagon{{Tare: api.Span{Low: 1, High: 1}}}, Stages: []api.ClaimStage{{Due: 1, Drive: api.Span{Low: 1, High: 1}}}, Weathers: 1,
	})
	if e != api.OK {
		t.Fatal(e)
	}
	y.journal = slices.Repeat([]string{"x"}, 149)
	if a, e := y.Do("staff 0 0 0 0"); a != "0 0" || e != api.OK || len(y.Journal()) != 150 {
		t.Errorf("line 150: %q, %d", a, e)
	}
	for line, want := range map[string]api.Errno{
		"staff 0 0 0 0": api.ErrFull, "dig 0 ann 0": api.ErrFull, "dig 0 tom 0": api.ErrFull, "clock 9 9 9": api.ErrFull, "pass 0 0 0 99 0 0": api.ErrFull,
		"staff 0 0 0": api.ErrSurveyorLine, "deep 0 0": api.OK, "wages tom 0": api.ErrSurveyorUnknown, "deep 1 0": api.ErrRange, "first": api.ErrNone,
	} {
		if _, e := y.Do(line); e != want {
			t.Errorf("%q: %d; want %d", line, e, want)
		}
	}
	if len(y.Journal()) != 150 || len(y.Staffs()) != 1 {
		t.Errorf("the journal: %q", y.Journal())
	}
}
