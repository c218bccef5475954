package surveyor_test

import (
	"fmt"
	"reflect"
	"slices"
	"strings"
	"testing"

	"macadam/api"
	"macadam/surveyor"
)

func to(low, high int) api.Span { return api.Span{Low: low, High: high} }

func just(n int) api.Span { return to(n, n) }

type change func(s *api.SurveyorSetup)

// setup is that of the chapter's examples, changed.
func setup(changes ...change) api.SurveyorSetup {
	s := api.SurveyorSetup{
		Miles:    []api.Span{to(10, 12), just(8)},
		Wears:    [3]api.Span{to(1, 2), to(0, 1), to(3, 4)},
		Days:     []api.RutDay{{Narrow: 2, Broad: 1}, {Narrow: 1, Broad: 2, Frost: api.RutPerhaps}, {Narrow: 3, Frost: api.RutSurely}},
		Mends:    []api.RutMend{{Mile: 1, Day: 2}},
		Act:      20,
		Heaps:    []api.Span{to(10, 12), just(5)},
		Lies:     [api.StoneCarters]int{1, 2, 0, 0},
		Names:    []string{"ann", "ben", "cob"},
		Off:      to(0, 2),
		Wagons:   []api.WeighWagon{{Tare: to(20, 22)}, {Tare: to(30, 31), Wheel: api.WeighBroad}},
		Tolls:    [3]api.WeighToll{{Free: 20, Base: 4, Rate: 2}, {Free: 30, Base: 3, Rate: 1}, {Free: 40, Base: 2, Rate: 1}},
		Stages:   []api.ClaimStage{{Due: 30, Drive: to(26, 28), Rough: to(0, 2), Stop: to(3, 4)}, {Due: 62, Drive: to(25, 26), Rough: to(2, 4)}},
		Weathers: 1<<api.ClaimDry | 1<<api.ClaimRain,
		Costs:    [3]int{0, 2, 6},
		Rate:     5,
	}
	for _, c := range changes {
		c(&s)
	}
	return s
}

func names(l ...string) change { return func(s *api.SurveyorSetup) { s.Names = l } }

// said is a line, what is answered, and its error.
type said struct {
	line, answer string
	e            api.Errno
}

// talk has lines that are done one after the other; lines and answers of a text are separated by a semicolon.
func talk(lines, answers string) []said {
	all := map[string]api.Errno{
		"ErrNone": api.ErrNone, "ErrFull": api.ErrFull, "ErrRange": api.ErrRange,
		"ErrSurveyorLine": api.ErrSurveyorLine, "ErrSurveyorUnknown": api.ErrSurveyorUnknown, "ErrSurveyorFalse": api.ErrSurveyorFalse,
	}
	var l []said
	answer := strings.Split(answers, "; ")
	for i, line := range strings.Split(lines, "; ") {
		if e, isError := all[answer[i]]; isError {
			l = append(l, said{line, "", e})
		} else {
			l = append(l, said{line, answer[i], api.OK})
		}
	}
	return l
}

func hear(t *testing.T, y *surveyor.Surveyor, l ...said) {
	t.Helper()
	for _, x := range l {
		if a, e := y.Do(x.line); a != x.answer || e != x.e {
			t.Errorf("%q: %q, %d; want %q, %d", x.line, a, e, x.answer, x.e)
		}
	}
}

func made(t *testing.T, s api.SurveyorSetup) *surveyor.Surveyor {
	t.Helper()
	y, e := surveyor.New(s)
	if y == nil || e != api.OK {
		t.Fatalf("New: %v, %d", y, e)
	}
	return y
}

// told is a surveyor who did all of some lines.
func told(t *testing.T, s api.SurveyorSetup, lines ...string) *surveyor.Surveyor {
	t.Helper()
	y := made(t, s)
	for _, line := range lines {
		if _, e := y.Do(line); e != api.OK {
			t.Fatalf("%q: %d", line, e)
		}
	}
	return y
}

// known is all that a surveyor returns of what was told.
type known struct {
	staffs  []api.RutStaff
	loads   []api.StoneMove
	passes  []api.WeighPass
	clocks  []api.ClaimClock
	journal []string
	file    string
}

func knows(y *surveyor.Surveyor) known {
	return known{y.Staffs(), y.Loads(), y.Passes(), y.Clocks(), y.Journal(), y.File()}
}

// same reports whether two surveyors know the same; a nil list is an empty one.
func (k known) same(other known) bool {
	return slices.Equal(k.staffs, other.staffs) && slices.Equal(k.loads, other.loads) && slices.Equal(k.passes, other.passes) &&
		slices.Equal(k.clocks, other.clocks) && slices.Equal(k.journal, other.journal) && k.file == other.file
}

// TestExamples has the examples of the chapter, all lines of them one after the other.
func TestExamples(t *testing.T) {
	y := made(t, setup())
	for _, x := range [][2]string{
		{"staff 0 1 24 0; staff 1 1 18 1; staff 2 0 0 0", "24 24; ErrSurveyorFalse; ErrRange"},
		{"deep 0 2; wears 0; frost 1; worse 1; surely 0; surely 1; bad 2; first", "33 34; 2 2; 2; 1; 1; ErrNone; 0; 0 1"},
		{"dig 0 ann 4; cart 0 1 ben 6; lay 1 ann 6; lay 1 ben 6", "3 4; 4 6; 5 6; 4 6"},
		{"lay 1 cob 6; lay 1 ben 3; lay 0 cob 1; lay 0 tom 1", "ErrSurveyorFalse; 1 2; ErrFull; ErrSurveyorUnknown"},
		{"yards 1; heap 1 4; laid; wages ben 2; liars", "5 6; 1 2; 10 11; 20 24; 1"},
		{"pass 0 0 0 22 0 0; pass 1 5 6 36 0 10; pass 0 0 0 23 0 0", "20 22; 35 36; ErrSurveyorFalse"},
		{"off; tare 0; weighs 0; pays 0; back 1; over; again", "0 1; 21 22; 21 22; 6 8; 8 8; 1; 0"},
		{"clock 1 66 0; clock 0 26 0; clock 2 0 0", "66 66; ErrSurveyorFalse; ErrRange"},
		{"comes 0; late 1; blame; owes; paid; weather", "30 32; 4 4; 2; 20 20; 20; 1"},
	} {
		hear(t, y, talk(x[0], x[1])...)
	}
}

// right has changes with which a setup is still valid, wrong those with which it is not.
func right() []change {
	return []change{
		func(s *api.SurveyorSetup) {},
		func(s *api.SurveyorSetup) { s.Act = 600 }, func(s *api.SurveyorSetup) { s.Miles = []api.Span{to(57, 60), just(0), just(0), just(0)} },
		func(s *api.SurveyorSetup) { s.Wears[2] = just(4) }, func(s *api.SurveyorSetup) { s.Mends = nil },
		func(s *api.SurveyorSetup) { s.Days = make([]api.RutDay, 6) }, func(s *api.SurveyorSetup) { s.Mends = make([]api.RutMend, 6) },
		func(s *api.SurveyorSetup) { s.Off = to(-9, -5) }, func(s *api.SurveyorSetup) { s.Wagons[0] = api.WeighWagon{Tare: to(57, 60), Wheel: 2} },
		func(s *api.SurveyorSetup) { s.Tolls[1] = api.WeighToll{Free: 120, Base: 99, Rate: 9} },
		func(s *api.SurveyorSetup) { s.Heaps = []api.Span{to(56, 60), just(0), just(0), just(0)} }, func(s *api.SurveyorSetup) { s.Heaps = s.Heaps[:1] },
		func(s *api.SurveyorSetup) { s.Lies = [api.StoneCarters]int{2, 2, 2, 2} },
		func(s *api.SurveyorSetup) { s.Weathers, s.Costs, s.Rate = 7, [3]int{30, 30, 30}, 99 }, func(s *api.SurveyorSetup) { s.Stages = s.Stages[:1] },
		names("a"), names("a", "b", "c", "d"), names("abcdefghijkl"), names("z09", "z9", "z"), names("a1234567890z", "a1234567890y"),
	}
}

func wrong() []change {
	return []change{
		func(s *api.SurveyorSetup) { *s = api.SurveyorSetup{} },
		// the book of layer 1
		func(s *api.SurveyorSetup) { s.Act = 601 }, func(s *api.SurveyorSetup) { s.Act = -1 }, func(s *api.SurveyorSetup) { s.Miles = nil },
		func(s *api.SurveyorSetup) { s.Miles[1] = just(61) }, func(s *api.SurveyorSetup) { s.Wears[1] = to(0, 2) }, func(s *api.SurveyorSetup) { s.Days = nil },
		func(s *api.SurveyorSetup) { s.Days[2].Frost = 3 }, func(s *api.SurveyorSetup) { s.Mends[0].Mile = 2 }, func(s *api.SurveyorSetup) { s.Mends[0].Day = 3 },
		// that of layer 2
		func(s *api.SurveyorSetup) { s.Off = just(10) }, func(s *api.SurveyorSetup) { s.Off = to(0, 5) }, func(s *api.SurveyorSetup) { s.Wagons = nil },
		func(s *api.SurveyorSetup) { s.Wagons[1].Wheel = 3 }, func(s *api.SurveyorSetup) { s.Tolls[2].Rate = 10 }, func(s *api.SurveyorSetup) { s.Tolls[0].Free = 121 },
		// that of layer 3
		func(s *api.SurveyorSetup) { s.Heaps = nil }, func(s *api.SurveyorSetup) { s.Heaps = make([]api.Span, 5) }, func(s *api.SurveyorSetup) { s.Heaps[0] = to(10, 15) },
		func(s *api.SurveyorSetup) { s.Heaps[1] = just(61) }, func(s *api.SurveyorSetup) { s.Heaps[1] = to(5, 4) }, func(s *api.SurveyorSetup) { s.Lies[0] = -1 }, func(s *api.SurveyorSetup) { s.Lies[3] = 3 },
		// that of layer 6
		func(s *api.SurveyorSetup) { s.Stages = nil }, func(s *api.SurveyorSetup) { s.Stages[1].Due = 30 }, func(s *api.SurveyorSetup) { s.Weathers = 0 },
		func(s *api.SurveyorSetup) { s.Weathers = 8 }, func(s *api.SurveyorSetup) { s.Costs[2] = 31 }, func(s *api.SurveyorSetup) { s.Rate = 100 },
		// the carters
		names(), names("a", "b", "c", "d", "e"), names("ann", "ben", "ann"), names("ann", "ann"), names("ann", "ben", "cob", "cob"), names(""), names("ann", ""),
		names("Ann"), names("1a"), names("aN"), names("a_"), names("a b"), names("a-"), names("a\n"), names("abcdefghijklm"), names("é"), names("a\x00"),
		names("a`"), names("a{"), names("a/"), names("a:"), names("`"), names("{"),
	}
}

// TestCheckLimits has what is just valid, and what is just not (P11.1).
func TestCheckLimits(t *testing.T) {
	for i, c := range right() {
		y, e := surveyor.New(setup(c))
		if f := surveyor.Check(setup(c)); f != api.OK || y == nil || e != api.OK {
			t.Errorf("the right setup %d: %d, %v, %d", i, f, y, e)
		}
	}
	for i, c := range wrong() {
		y, e := surveyor.New(setup(c))
		if f := surveyor.Check(setup(c)); f != api.ErrSurveyor || y != nil || e != api.ErrSurveyor {
			t.Errorf("the wrong setup %d: %d, %v, %d", i, f, y, e)
		}
	}
}

// TestSetupWrittenOver writes into all that was given to New, and to Open (P11.1, P11.5).
func TestSetupWrittenOver(t *testing.T) {
	want := told(t, setup(), "staff 0 1 24 0", "dig 0 ann 4", "pass 0 0 0 22 0 0", "clock 1 66 0")
	for i, make := range []func(s api.SurveyorSetup) *surveyor.Surveyor{
		func(s api.SurveyorSetup) *surveyor.Surveyor {
			return told(t, s, want.Journal()...)
		},
		func(s api.SurveyorSetup) *surveyor.Surveyor {
			y, _, _ := surveyor.Open(s, want.File())
			return y
		},
	} {
		s := setup()
		y := make(s)
		if !reflect.DeepEqual(s, setup()) {
			t.Errorf("%d: the setup was changed: %+v", i, s)
		}
		clear(s.Miles)
		clear(s.Days)
		clear(s.Mends)
		clear(s.Heaps)
		clear(s.Names)
		clear(s.Wagons)
		clear(s.Stages)
		for _, line := range questions(setup()) {
			a, e := want.Do(line)
			if b, f := y.Do(line); a != b || e != f {
				t.Errorf("%d, %q: %q, %d; want %q, %d", i, line, b, f, a, e)
			}
		}
	}
}

// forms has the letters behind each word, as the chapter's tables have them.
func forms() map[string]string {
	return map[string]string{
		"staff": "M D R E", "dig": "T C Q", "cart": "F T C Q", "lay": "F C Q", "pass": "W L H S E P", "clock": "S R E",
		"deep": "M D", "wears": "K", "frost": "D", "worse": "M", "surely": "M", "bad": "D", "first": "",
		"yards": "I", "heap": "H I", "laid": "", "wages": "C R", "liars": "",
		"off": "", "tare": "W", "weighs": "I", "pays": "I", "back": "I", "over": "", "again": "",
		"comes": "S", "late": "S", "blame": "", "owes": "", "paid": "", "weather": "",
	}
}

// filled has a line of a word in which a C is "ann", and each other letter is a number; one of the tokens is another one.
func filled(word string, changed int, token string) string {
	l := []string{word}
	for i, letter := range strings.Fields(forms()[word]) {
		switch {
		case i == changed:
			l = append(l, token)
		case letter == "C":
			l = append(l, "ann")
		default:
			l = append(l, "0")
		}
	}
	return strings.Join(l, " ")
}

// hasForm reports whether a line is not sent back for its form.
func hasForm(t *testing.T, line string) bool {
	t.Helper()
	y := made(t, setup())
	a, e := y.Do(line)
	if e != api.OK && a != "" {
		t.Errorf("%q: %q, %d", line, a, e)
	}
	return e != api.ErrSurveyorLine
}

// TestForm has lines of all words with a token more, one less, and one that is not of the form (P11.2).
func TestForm(t *testing.T) {
	for word, letters := range forms() {
		line := filled(word, -1, "")
		if !hasForm(t, line) {
			t.Errorf("%q does not have the form", line)
		}
		for _, bad := range []string{line + " 0", line + " ann", line + " ", " " + line, line + "\n", "\n" + line, line + "\r", line + "x", strings.ToUpper(word) + line[len(word):], word[1:] + line[len(word):]} {
			if hasForm(t, bad) {
				t.Errorf("%q has the form", bad)
			}
		}
		for i, letter := range strings.Fields(letters) {
			less := strings.TrimSuffix(strings.Join(strings.Fields(filled(word, i, "")), " "), " ")
			if hasForm(t, less) {
				t.Errorf("%q has the form", less)
			}
			for _, token := range []string{"0", "9", "10", "1000", "9999"} {
				if !hasForm(t, filled(word, i, token)) {
					t.Errorf("%q does not have the form", filled(word, i, token))
				}
			}
			for _, token := range []string{"", "\n", "a\nb"} {
				if hasForm(t, filled(word, i, token)) {
					t.Errorf("%q has the form", filled(word, i, token))
				}
			}
			for _, token := range []string{"00", "01", "0000", "10000", "00000", "99999", "-1", "+1", "-0", "a", "1a", "a1", "/", ":", "1.", "0x1", "1\t", "٣", "\x00", "ann", "-", "1,0"} {
				if hasForm(t, filled(word, i, token)) != (letter == "C") {
					t.Errorf("%q has the form: %t", filled(word, i, token), letter != "C")
				}
			}
		}
	}
	for _, line := range []string{"", " ", "  ", "\n", "-", "0", "ann", "staff\n0 1 24 0", "staff\t0 1 24 0", "staff  0 1 24 0", "staff 0  1 24 0", "staff 0 1 24  0", "staffs 0 1 24 0", "first\x00", "firs", "comes0", "paids", "stone", "rough 0", "right", "wrong", "fits 0"} {
		if hasForm(t, line) {
			t.Errorf("%q has the form", line)
		}
	}
}

// TestLongLine has lines of 80 bytes, and of one more (P11.2).
func TestLongLine(t *testing.T) {
	y := made(t, setup())
	for _, x := range [][2]string{{"wages ", " 1"}, {"dig 0 ", " 1"}, {"cart 0 1 ", " 4"}} {
		fits := x[0] + strings.Repeat("n", 80-len(x[0])-len(x[1])) + x[1]
		hear(t, y, said{fits, "", api.ErrSurveyorUnknown}, said{strings.Replace(fits, "n", "nn", 1), "", api.ErrSurveyorLine})
	}
	hear(t, y, said{strings.Repeat("x", 60000), "", api.ErrSurveyorLine}, said{"first" + strings.Repeat(" ", 1<<20), "", api.ErrSurveyorLine})
}

// full is a surveyor for whom there is no room for one more of anything.
func full(t *testing.T) *surveyor.Surveyor {
	t.Helper()
	y := made(t, setup())
	for line, n := range map[string]int{"staff 0 0 15 3": 5, "dig 0 cob 1": 5, "pass 0 0 0 21 2 0": 6, "clock 0 28 4": 4} {
		for range n {
			if _, e := y.Do(line); e != api.OK {
				t.Fatalf("%q: %d", line, e)
			}
		}
	}
	return y
}

// TestOrderOfErrors has lines to which several errors apply (P11.2, R1).
func TestOrderOfErrors(t *testing.T) {
	y := full(t)
	before := knows(y)
	hear(t, y, []said{
		// no form, and no such carter
		{"dig 0 tom x", "", api.ErrSurveyorLine}, {"wages tom 00", "", api.ErrSurveyorLine}, {"lay 9999 tom 1 1", "", api.ErrSurveyorLine},
		// no such carter, not valid, no room
		{"dig 9 tom 9", "", api.ErrSurveyorUnknown}, {"cart 0 0 tom 9", "", api.ErrSurveyorUnknown}, {"lay 9 tom 1", "", api.ErrSurveyorUnknown}, {"wages tom 100", "", api.ErrSurveyorUnknown}, {"dig 0 Ann 1", "", api.ErrSurveyorUnknown}, {"dig 0 0 1", "", api.ErrSurveyorUnknown}, {"dig 0 an 1", "", api.ErrSurveyorUnknown}, {"dig 0 anna 1", "", api.ErrSurveyorUnknown},
		// not valid, no room
		{"staff 2 0 0 0", "", api.ErrRange}, {"dig 2 ann 1", "", api.ErrRange}, {"cart 1 1 ann 1", "", api.ErrRange}, {"lay 0 ann 7", "", api.ErrRange}, {"pass 2 0 0 0 0 0", "", api.ErrRange}, {"clock 2 0 0", "", api.ErrRange},
		// no room, and it cannot be
		{"staff 0 0 0 0", "", api.ErrFull}, {"lay 1 cob 6", "", api.ErrFull}, {"pass 0 0 0 150 0 0", "", api.ErrFull}, {"clock 0 600 0", "", api.ErrFull},
	}...)
	hear(t, made(t, setup()), []said{
		{"staff 0 3 0 0", "", api.ErrRange}, {"staff 0 0 0 0", "", api.ErrSurveyorFalse}, {"lay 1 cob 6", "", api.ErrSurveyorFalse}, {"pass 0 0 0 150 0 0", "", api.ErrSurveyorFalse}, {"clock 0 600 0", "", api.ErrSurveyorFalse},
	}...)
	if !knows(y).same(before) {
		t.Errorf("behind errors: %+v; before %+v", knows(y), before)
	}
}

// TestErrNil has surveyors whom neither New nor Open returned (P11.2, P11.3).
func TestErrNil(t *testing.T) {
	y := told(t, setup(), "staff 0 1 24 0")
	copy := *y
	for i, none := range []*surveyor.Surveyor{nil, {}, new(surveyor.Surveyor), &copy} {
		for _, line := range []string{"first", "staff 0 1 24 0", "", "x", "dig 0 tom 9"} {
			if a, e := none.Do(line); a != "" || e != api.ErrNil {
				t.Errorf("%d, %q: %q, %d", i, line, a, e)
			}
		}
		if k := knows(none); !k.same(known{}) {
			t.Errorf("%d knows %+v", i, k)
		}
	}
	hear(t, y, said{"deep 0 1", "24 24", api.OK})
}

// TestFull has room for five staffs, five loads of all sorts, six passes and four clocks, each of them alone (P11.2).
func TestFull(t *testing.T) {
	for _, x := range []struct {
		lines []string
		room  int
	}{
		{[]string{"staff 0 0 15 3"}, 5}, {[]string{"pass 0 0 0 21 2 0"}, 6}, {[]string{"clock 0 28 4"}, 4},
		{[]string{"dig 0 cob 1"}, 5}, {[]string{"cart 0 1 cob 1"}, 5}, {[]string{"lay 0 cob 1"}, 5}, {[]string{"dig 0 cob 1", "cart 0 1 cob 1", "lay 0 cob 1"}, 5},
	} {
		y := made(t, setup())
		for i := range x.room + 3 {
			want := api.OK
			if i >= x.room {
				want = api.ErrFull
			}
			if a, e := y.Do(x.lines[i%len(x.lines)]); e != want || (a == "") != (e != api.OK) {
				t.Errorf("%q, %d: %q, %d; want %d", x.lines, i, a, e, want)
			}
		}
		if len(y.Journal()) != x.room {
			t.Errorf("%q: %q", x.lines, y.Journal())
		}
		for _, line := range []string{"staff 0 0 15 3", "dig 0 cob 1", "pass 0 0 0 21 2 0", "clock 0 28 4"} {
			want := api.OK
			if strings.Fields(line)[0] == strings.Fields(x.lines[0])[0] || strings.Contains("dig cart lay", strings.Fields(x.lines[0])[0]) && line == "dig 0 cob 1" {
				want = api.ErrFull
			}
			if _, e := y.Do(line); e != want {
				t.Errorf("%q behind %q: %d; want %d", line, x.lines, e, want)
			}
		}
	}
}

// TestErrRange has things that are just valid, and just not, and questions of what there is not (P11.2).
func TestErrRange(t *testing.T) {
	for _, x := range []struct{ right, wrong string }{
		{"staff 0 1 24 0; staff 1 2 5 5; staff 0 0 600 5; staff 1 0 0 0", "staff 2 1 24 0; staff 0 3 24 0; staff 0 0 601 0; staff 0 0 12 6; staff 9999 0 0 0"},
		{"dig 0 ann 6; dig 1 ann 0; cart 1 0 ben 0; cart 0 1 cob 6; lay 1 ann 5; lay 0 ann 0", "dig 2 ann 0; dig 0 ann 7; cart 0 0 ann 0; cart 1 1 ann 0; cart 2 0 ann 0; cart 0 2 ann 0; cart 0 1 ann 7; lay 2 ann 0; lay 0 ann 7"},
		{"pass 0 0 0 20 0 0; pass 1 57 60 150 5 999; pass 0 3 6 24 0 0", "pass 2 0 0 20 0 0; pass 0 0 4 20 0 0; pass 0 6 5 20 0 0; pass 0 58 61 20 0 0; pass 0 0 0 151 0 0; pass 0 0 0 20 6 0; pass 0 0 0 20 0 1000"},
		{"clock 0 26 0; clock 1 600 5; clock 0 0 0", "clock 2 26 0; clock 0 601 0; clock 0 26 6"},
		{"deep 1 2; wears 2; frost 2; worse 1; surely 1; bad 2", "deep 2 0; deep 0 3; wears 3; frost 3; worse 2; surely 2; bad 3"},
		{"heap 1 0; wages cob 99", "yards 0; heap 2 0; heap 0 1; wages ann 100"},
		{"tare 1", "tare 2; weighs 0; pays 0; back 0"},
		{"comes 1; late 1", "comes 2; late 2; comes 9999"},
	} {
		for _, line := range strings.Split(x.right, "; ") {
			if _, e := made(t, setup()).Do(line); e == api.ErrRange || e == api.ErrSurveyorLine {
				t.Errorf("%q: %d", line, e)
			}
		}
		for _, line := range strings.Split(x.wrong, "; ") {
			hear(t, made(t, setup()), said{line, "", api.ErrRange})
		}
	}
	y := told(t, setup(), "dig 0 ann 4", "pass 0 0 0 22 0 0")
	hear(t, y, talk("yards 0; yards 1; heap 0 1; heap 0 2; weighs 0; weighs 1; pays 1; back 1", "3 4; ErrRange; 13 16; ErrRange; 20 22; ErrRange; ErrRange; ErrRange")...)
}

// TestErrNone has questions to which there is no answer (P11.2).
func TestErrNone(t *testing.T) {
	y := made(t, setup(func(s *api.SurveyorSetup) { s.Act, s.Wagons = 600, []api.WeighWagon{{Tare: just(20)}} }))
	hear(t, y, talk("worse 0; surely 0; first; again; bad 2; liars; over", "ErrNone; ErrNone; ErrNone; ErrNone; -; -; -")...)
	if k := knows(y); !k.same(known{}) {
		t.Errorf("knows %+v", k)
	}
}

// TestRuts, TestStone, TestWeights and TestCoach have answers of each kind of line (P11.2).
func TestRuts(t *testing.T) {
	y := made(t, setup())
	hear(t, y, talk("deep 0 0; deep 0 2; deep 1 2; wears 0; wears 1; wears 2; frost 0; frost 1; frost 2", "12 17; 19 35; 6 10; 1 2; 0 1; 3 4; 0; 1; 2")...)
	hear(t, y, talk("worse 0; worse 1; surely 0; bad 0; bad 1; bad 2; first", "1; 1; ErrNone; -; 0 1; 0; 0 1")...)
	hear(t, y, talk("staff 1 2 6 0; wears 0; wears 2; staff 1 0 10 0; wears 1; deep 1 1; staff 0 2 26 2; frost 1", "6 6; 1 1; 3 3; 10 10; 0 0; 11 14; 24 24; 2")...)
	if l := y.Staffs(); !slices.Equal(l, []api.RutStaff{{Mile: 1, Day: 2, Read: 6}, {Mile: 1, Read: 10}, {Day: 2, Read: 26, Error: 2}}) {
		t.Errorf("staffs %+v", l)
	}
}

func TestStone(t *testing.T) {
	y := made(t, setup())
	hear(t, y, talk("heap 0 0; heap 1 0; laid; wages ann 9; liars", "10 12; 5 5; 0 0; 0 0; -")...)
	hear(t, y, talk("dig 1 ben 6; heap 1 1; heap 0 1; cart 1 0 cob 5; heap 1 2; heap 0 2; lay 0 ann 3; laid", "4 6; 9 11; 10 12; 5 5; 4 6; 15 17; 2 3; 2 3")...)
	hear(t, y, talk("wages ann 10; wages ben 10; wages cob 10; wages cob 0; yards 0; yards 1; yards 2; heap 1 0", "20 30; 40 60; 50 50; 0 0; 4 6; 5 5; 2 3; 5 5")...)
	if l := y.Loads(); !slices.Equal(l, []api.StoneMove{{From: api.StoneOut, To: 1, Carter: 1, Told: 6}, {From: 1, Carter: 2, Told: 5}, {To: api.StoneOut, Told: 3}}) {
		t.Errorf("loads %+v", l)
	}
	y = made(t, setup(func(s *api.SurveyorSetup) { s.Heaps[0] = to(56, 60) }))
	hear(t, y, talk("dig 0 cob 6; dig 0 cob 6; dig 0 cob 6; dig 0 cob 6; dig 0 cob 6; heap 0 5; heap 0 0", "6 6; 6 6; 6 6; 6 6; 6 6; 86 90; 56 60")...)
	y = made(t, setup())
	hear(t, y, talk("lay 1 ann 6; lay 1 ben 2; liars; yards 0; yards 1; heap 1 1; heap 1 2", "5 5; 0 0; 0 1; 5 5; 0 0; 0 0; 0 0")...)
}

func TestWeights(t *testing.T) {
	y := made(t, setup())
	hear(t, y, talk("off; tare 0; tare 1; over; again", "0 2; 20 22; 30 31; -; 0")...)
	hear(t, y, talk("pass 0 0 0 20 0 9; off; pays 0; back 0; over; tare 0; again", "20 20; 0 0; 4 4; 5 5; 0; 20 20; 1")...)
	hear(t, y, talk("pass 1 10 13 43 1 2; weighs 0; weighs 1; pays 1; back 1; over; pass 1 0 0 31 0 3; over; again", "42 44; 20 20; 42 44; 4 6; 0 0; 0; 31 31; 0 2; ErrNone")...)
	if l := y.Passes(); !slices.Equal(l, []api.WeighPass{{Shown: 20, Paid: 9}, {Wagon: 1, Load: to(10, 13), Shown: 43, Error: 1, Paid: 2}, {Wagon: 1, Shown: 31, Paid: 3}}) {
		t.Errorf("passes %+v", l)
	}
	hear(t, made(t, setup(func(s *api.SurveyorSetup) { s.Off = to(-9, -7) })), talk("off; pass 0 0 0 11 0 0; off; tare 0", "-9 -7; 20 20; -9 -9; 20 20")...)
	hear(t, made(t, setup(func(s *api.SurveyorSetup) { s.Off = to(-1, 1) })), talk("off; pass 0 0 0 21 0 0; off", "-1 1; 20 22; -1 1")...)
}

func TestCoach(t *testing.T) {
	y := made(t, setup())
	hear(t, y, talk("comes 0; comes 1; late 0; late 1; blame; owes; paid; weather", "26 32; 56 68; 0 2; 0 6; 1; 0 30; 0; 0 1")...)
	hear(t, y, talk("clock 0 32 0; weather; comes 1; blame; owes; clock 1 67 1; late 1; paid", "32 32; 1; 64 68; 2; 10 30; 66 68; 4 6; 20")...)
	if l := y.Clocks(); !slices.Equal(l, []api.ClaimClock{{Read: 32}, {Stage: 1, Read: 67, Error: 1}}) {
		t.Errorf("clocks %+v", l)
	}
	for set, want := range []string{1: "0", 2: "1", 3: "0 1", 4: "2", 5: "0 2", 6: "1 2", 7: "0 1 2"} {
		if set > 0 {
			hear(t, made(t, setup(func(s *api.SurveyorSetup) { s.Weathers = set })), said{"weather", want, api.OK})
		}
	}
}

// TestErrSurveyorFalse has what cannot be beside what was told before, and still is not let in behind other lines (P11.2, P11.7).
func TestErrSurveyorFalse(t *testing.T) {
	for _, x := range []struct {
		told []string
		line string
	}{
		{nil, "staff 0 0 18 0"}, {[]string{"staff 0 1 24 0"}, "staff 1 1 18 1"}, {[]string{"staff 0 1 24 0"}, "staff 0 1 23 0"}, {nil, "staff 1 2 4 1"},
		{nil, "lay 1 cob 6"}, {[]string{"lay 1 ann 6"}, "lay 1 ben 3"}, {[]string{"lay 1 ann 6", "dig 1 cob 1"}, "lay 1 ben 6"}, {[]string{"cart 1 0 cob 5"}, "cart 1 0 cob 1"},
		{nil, "pass 0 0 0 19 0 0"}, {nil, "pass 0 0 0 25 0 0"}, {[]string{"pass 0 0 0 20 0 0"}, "pass 0 0 0 21 0 0"}, {[]string{"pass 0 0 0 20 0 0"}, "pass 1 0 0 33 1 0"},
		{nil, "clock 0 25 0"}, {nil, "clock 0 33 0"}, {[]string{"clock 1 66 0"}, "clock 0 26 0"}, {[]string{"clock 0 26 0"}, "clock 1 61 0"},
	} {
		y := told(t, setup(), x.told...)
		before := knows(y)
		hear(t, y, said{x.line, "", api.ErrSurveyorFalse}, said{x.line, "", api.ErrSurveyorFalse})
		if !knows(y).same(before) || !slices.Equal(y.Journal(), x.told) {
			t.Errorf("%q behind %q: %+v", x.line, x.told, knows(y))
		}
	}
}

// TestJournal has lines of which only those stand in the journal that changed something, byte for byte (P11.2, P11.3).
func TestJournal(t *testing.T) {
	y := made(t, setup(names("ann", "ben", "c0")))
	for _, line := range []string{"clock 1 66 0", "first", "deep 0 9", "staff 0 1 24 0", "again", "x", "dig 0 c0 4", "dig 0 tom 4", "staff 1 1 18 1", "pass 0 0 0 22 0 0", "clock 1 66 0", "clock  1 66 0", "wages c0 1"} {
		y.Do(line)
	}
	want := []string{"clock 1 66 0", "staff 0 1 24 0", "dig 0 c0 4", "pass 0 0 0 22 0 0", "clock 1 66 0"}
	if !slices.Equal(y.Journal(), want) || y.File() != strings.Join(want, "\n")+"\n" {
		t.Errorf("journal %q, file %q", y.Journal(), y.File())
	}
	if k := knows(made(t, setup())); !k.same(known{}) {
		t.Errorf("at first: %+v", k)
	}
}

// TestOpen has files, how many lines of them were done, and what is wrong with them (P11.4).
func TestOpen(t *testing.T) {
	clock := "clock 1 66 0\n"
	for i, x := range []struct {
		file string
		at   int
		e    api.Errno
	}{
		{"", 0, api.OK}, {clock, 1, api.OK}, {clock + "dig 0 ann 4\n", 2, api.OK}, {strings.Repeat(clock, 4), 4, api.OK},
		{strings.Repeat("x", 60001), 0, api.ErrLong}, {strings.Repeat("\n", 60001), 0, api.ErrLong}, {strings.Repeat("x", 60000), 0, api.ErrForm}, {strings.Repeat("\n", 60000), 0, api.ErrSurveyorLine}, {strings.Repeat("x", 59999) + "\n", 0, api.ErrSurveyorLine},
		{"clock 1 66 0", 0, api.ErrForm}, {clock + clock + "x", 0, api.ErrForm}, {clock + " ", 0, api.ErrForm}, {"clock 1 66 0\r", 0, api.ErrForm},
		{"\n", 0, api.ErrSurveyorLine}, {clock + "\n", 1, api.ErrSurveyorLine}, {"\n" + clock, 0, api.ErrSurveyorLine}, {clock + "\n" + clock, 1, api.ErrSurveyorLine}, {"clock 1 66 0\r\n", 0, api.ErrSurveyorLine},
		{clock + "first\n", 1, api.ErrSurveyorLine}, {"wages tom 1\n", 0, api.ErrSurveyorLine}, {clock + clock + "deep 9 9\n", 2, api.ErrSurveyorLine}, {"again\n" + clock, 0, api.ErrSurveyorLine},
		{clock + "dig 0 tom 1\n", 1, api.ErrSurveyorUnknown}, {clock + "clock 2 0 0\n" + clock, 1, api.ErrRange}, {strings.Repeat(clock, 5), 4, api.ErrFull}, {clock + "clock 0 26 0\n", 1, api.ErrSurveyorFalse},
		{clock + "staff 0 1 24 0\nstaff 1 1 18 1\nx\n", 2, api.ErrSurveyorFalse},
	} {
		y, at, e := surveyor.Open(setup(), x.file)
		if at != x.at || e != x.e || (y == nil) != (e != api.OK) {
			t.Errorf("Open %d: %v, %d, %d; want %d, %d", i, y, at, e, x.at, x.e)
		}
		if y != nil && (y.File() != x.file || len(y.Journal()) != x.at) {
			t.Errorf("Open %d: the file %q", i, y.File())
		}
	}
	for i, c := range wrong() {
		for _, file := range []string{"", clock, "x", strings.Repeat("x", 60001)} {
			if y, at, e := surveyor.Open(setup(c), file); y != nil || at != 0 || e != api.ErrSurveyor {
				t.Errorf("Open of the wrong setup %d: %v, %d, %d", i, y, at, e)
			}
		}
	}
}

// TestOpenAgain opens a surveyor from a file, who does more (P11.4, P11.6).
func TestOpenAgain(t *testing.T) {
	y := told(t, setup(), "staff 0 1 24 0", "dig 0 ann 4", "pass 0 0 0 22 0 0", "clock 1 66 0", "lay 1 ben 6", "cart 0 1 cob 2")
	z, at, e := surveyor.Open(setup(), y.File())
	if e != api.OK || at != 6 || !knows(z).same(knows(y)) {
		t.Fatalf("Open: %d, %d: %+v", at, e, knows(z))
	}
	hear(t, z, talk("deep 0 2; yards 1; tare 0; blame; heap 1 3; staff 1 1 18 1; dig 0 ann 1; dig 0 ann 1; dig 0 ann 1", "33 34; 4 5; 20 22; 2; 2 3; ErrSurveyorFalse; 0 1; 0 1; ErrFull")...)
	if len(z.Journal()) != 8 || len(y.Journal()) != 6 {
		t.Errorf("journals %q and %q", y.Journal(), z.Journal())
	}
}

// TestResults writes into all that is returned, and behind its end (P11.3, P11.5).
func TestResults(t *testing.T) {
	lines := []string{"staff 0 1 24 0", "dig 0 ann 4", "pass 0 0 0 22 0 0", "clock 1 66 0"}
	y := told(t, setup(), lines...)
	want := knows(y)
	k := knows(y)
	clear(k.staffs[:cap(k.staffs)])
	clear(k.loads[:cap(k.loads)])
	clear(k.passes[:cap(k.passes)])
	clear(k.clocks[:cap(k.clocks)])
	clear(k.journal[:cap(k.journal)])
	for _, line := range lines {
		a, e := y.Do(line)
		if b, f := told(t, setup(), lines...).Do(line); a != b || e != f {
			t.Errorf("%q: %q, %d; want %q, %d", line, a, e, b, f)
		}
		_, _, _, _, _ = append(y.Staffs(), api.RutStaff{}), append(y.Loads(), api.StoneMove{}), append(y.Passes(), api.WeighPass{}), append(y.Clocks(), api.ClaimClock{}), append(y.Journal(), "x")
	}
	if !knows(y).same(knows(told(t, setup(), append(lines, lines...)...))) {
		t.Errorf("told twice: %+v", knows(y))
	}
	if now := knows(told(t, setup(), lines...)); !now.same(want) {
		t.Errorf("%+v; first %+v", now, want)
	}
}

// TestResultsStay keeps results while more is told.
func TestResultsStay(t *testing.T) {
	y := told(t, setup(), "staff 0 1 24 0", "dig 0 ann 4", "pass 0 0 0 22 0 0", "clock 1 66 0")
	k, want := knows(y), fmt.Sprint(knows(y))
	for _, line := range []string{"staff 0 0 14 2", "lay 0 ben 4", "pass 1 0 0 32 2 0", "clock 0 31 1", "staff 0 0 0 0", "clock 0 600 0"} {
		y.Do(line)
	}
	if fmt.Sprint(k) != want {
		t.Errorf("kept %+v; want %s", k, want)
	}
}

// TestNilAndEmpty has nil lists and empty ones (R3).
func TestNilAndEmpty(t *testing.T) {
	one, two := made(t, setup(func(s *api.SurveyorSetup) { s.Mends = nil })), made(t, setup(func(s *api.SurveyorSetup) { s.Mends = []api.RutMend{} }))
	for _, line := range questions(setup()) {
		a, e := one.Do(line)
		if b, f := two.Do(line); a != b || e != f {
			t.Errorf("%q: nil %q, %d; empty %q, %d", line, a, e, b, f)
		}
	}
	for _, s := range []api.SurveyorSetup{setup(func(s *api.SurveyorSetup) { s.Names = []string{} }), setup(func(s *api.SurveyorSetup) { s.Heaps = []api.Span{} })} {
		if e := surveyor.Check(s); e != api.ErrSurveyor {
			t.Errorf("Check: %d", e)
		}
	}
}

// TestTwoSurveyors tells two surveyors of one setup different things (P2).
func TestTwoSurveyors(t *testing.T) {
	s := setup()
	one, two := made(t, s), made(t, s)
	hear(t, one, said{"staff 0 1 24 0", "24 24", api.OK})
	hear(t, two, talk("deep 0 1; staff 0 1 20 0; deep 0 1", "13 25; 20 20; 20 20")...)
	hear(t, one, said{"deep 0 1", "24 24", api.OK})
}
