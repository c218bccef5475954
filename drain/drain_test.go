package drain_test

import (
	"math"
	"reflect"
	"slices"
	"testing"

	"macadam/api"
	"macadam/drain"
)

const (
	blocked = api.DrainBlocked
	perhaps = api.DrainPerhaps
	open    = api.DrainOpen
	river   = api.DrainRiver
)

func to(low, high int) api.Span { return api.Span{Low: low, High: high} }

func just(n int) api.Span { return to(n, n) }

func ditch(holds, lets, state, down int) api.DrainDitch {
	return api.DrainDitch{Holds: holds, Lets: lets, State: state, Down: down}
}

func mark(ditch, day, read, wrong int) api.DrainMark {
	return api.DrainMark{Ditch: ditch, Day: day, Read: read, Error: wrong}
}

type change func(b *api.DrainBook)

// book is that of the chapter's examples, changed.
func book(changes ...change) api.DrainBook {
	b := api.DrainBook{Ditches: []api.DrainDitch{ditch(6, 3, perhaps, 1), ditch(8, 4, open, river)}, Rain: []api.Span{to(3, 4), to(4, 5)}}
	for _, c := range changes {
		c(&b)
	}
	return b
}

func ditches(l ...api.DrainDitch) change { return func(b *api.DrainBook) { b.Ditches = l } }

func rain(l ...api.Span) change { return func(b *api.DrainBook) { b.Rain = l } }

func marks(l ...api.DrainMark) change { return func(b *api.DrainBook) { b.Marks = l } }

// marked, torn and narrow are what the chapter calls so.
func marked() change { return marks(mark(0, 0, 3, 0)) }

func torn() change { return marks(mark(0, 0, 3, 0), mark(1, 0, 2, 0)) }

func narrow() change { return func(b *api.DrainBook) { b.Ditches[1].Lets = 1 } }

// falls has each day's rain, of which all is known.
func falls(l ...int) change {
	return func(b *api.DrainBook) {
		b.Rain = nil
		for _, n := range l {
			b.Rain = append(b.Rain, just(n))
		}
	}
}

// chain is a road of four ditches, each of which runs into the next one.
func chain(changes ...change) api.DrainBook {
	return book(append([]change{ditches(ditch(4, 2, perhaps, 1), ditch(5, 4, perhaps, 2), ditch(6, 6, open, 3), ditch(20, 0, perhaps, river)), falls(2, 2)}, changes...)...)
}

// full has as much of everything as is allowed, at its upper limits.
func full(changes ...change) api.DrainBook {
	b := api.DrainBook{Rain: slices.Repeat([]api.Span{to(7, 9)}, api.DrainDays)}
	for n := range api.DrainDitches {
		b.Ditches = append(b.Ditches, ditch(20, 9, perhaps, n+1))
	}
	b.Ditches[3].Down = river
	b.Marks = slices.Repeat([]api.DrainMark{mark(3, 3, 20, 3)}, api.DrainMarks)
	for _, c := range changes {
		c(&b)
	}
	return b
}

// answer is what a function returns; what does not apply to it is zero.
type answer struct {
	span       api.Span
	is         bool
	n          int
	ditch, day int
	list       []int
	e          api.Errno
}

func isNothingBut(a answer, e api.Errno) bool {
	return len(a.list) == 0 && a.span == (api.Span{}) && !a.is && a.n == 0 && a.ditch == 0 && a.day == 0 && a.e == e
}

// question is what functions are asked.
type question struct {
	ditch, day int
	mark       api.DrainMark
}

// ask calls all functions but Check.
func ask(b api.DrainBook, q question) map[string]answer {
	all := map[string]answer{}
	var a answer
	put := func(name string) { all[name], a = a, answer{} }
	a.is, a.e = drain.Right(b)
	put("Right")
	a.span, a.e = drain.Water(b, q.ditch, q.day)
	put("Water")
	a.n, a.e = drain.Open(b, q.ditch)
	put("Open")
	a.span, a.e = drain.Rain(b, q.day)
	put("Rain")
	a.n, a.e = drain.Floods(b, q.ditch)
	put("Floods")
	a.n, a.e = drain.Surely(b, q.ditch)
	put("Surely")
	a.ditch, a.day, a.e = drain.First(b)
	put("First")
	a.list, a.e = drain.Clear(b)
	put("Clear")
	a.is, a.e = drain.Fits(b, q.mark)
	put("Fits")
	a.list, a.e = drain.Wrong(b)
	put("Wrong")
	return all
}

func checkSpan(t *testing.T, what string, got api.Span, e api.Errno, want api.Span) {
	t.Helper()
	if got != want || e != api.OK {
		t.Errorf("%s: %v, %d; want %v", what, got, e, want)
	}
}

func checkList(t *testing.T, what string, got []int, e api.Errno, want ...int) {
	t.Helper()
	if !slices.Equal(got, want) || e != api.OK {
		t.Errorf("%s: %v, %d; want %v", what, got, e, want)
	}
}

func checkIs(t *testing.T, what string, got bool, e api.Errno, want bool) {
	t.Helper()
	if got != want || e != api.OK {
		t.Errorf("%s: %v, %d; want %v", what, got, e, want)
	}
}

func checkNumber(t *testing.T, what string, got int, e api.Errno, want int) {
	t.Helper()
	if got != want || e != api.OK {
		t.Errorf("%s: %d, %d; want %d", what, got, e, want)
	}
}

// none is a day that there is not.
const none = -1

// isDay reports whether a day is the one that is wanted; none is wanted for ErrNone.
func isDay(got int, e api.Errno, want int) bool {
	if want == none {
		return got == 0 && e == api.ErrNone
	}
	return got == want && e == api.OK
}

func checkDay(t *testing.T, what string, got int, e api.Errno, want int) {
	t.Helper()
	if !isDay(got, e, want) {
		t.Errorf("%s: %d, %d; want %d", what, got, e, want)
	}
}

// TestExamples has the examples of the chapter.
func TestExamples(t *testing.T) {
	for ditch, row := range [][]api.Span{{to(0, 4), to(1, 6)}, {to(0, 3), to(0, 7)}} {
		for day, want := range row {
			s, e := drain.Water(book(), ditch, day)
			checkSpan(t, "Water", s, e, want)
		}
	}
	s, e := drain.Water(book(marked()), 0, 1)
	checkSpan(t, "marked: Water of 0 on 1", s, e, just(6))
	s, e = drain.Water(book(marked()), 1, 1)
	checkSpan(t, "marked: Water of 1 on 1", s, e, to(0, 1))
	s, e = drain.Rain(book(marked()), 0)
	checkSpan(t, "marked: Rain 0", s, e, just(3))
	n, e := drain.Open(book(), 0)
	checkNumber(t, "Open 0", n, e, 1)
	n, e = drain.Open(book(), 1)
	checkNumber(t, "Open 1", n, e, 2)
	n, e = drain.Open(book(marked()), 0)
	checkNumber(t, "marked: Open 0", n, e, 0)
	n, e = drain.Floods(book(), 0)
	checkDay(t, "Floods 0", n, e, 1)
	n, e = drain.Floods(book(), 1)
	checkDay(t, "Floods 1", n, e, none)
	n, e = drain.Surely(book(), 0)
	checkDay(t, "Surely 0", n, e, none)
	n, e = drain.Surely(book(marked()), 0)
	checkDay(t, "marked: Surely 0", n, e, 1)
	if ditch, day, e := drain.First(book()); ditch != 0 || day != 1 || e != api.OK {
		t.Errorf("First: %d, %d, %d", ditch, day, e)
	}
	l, e := drain.Clear(book())
	checkList(t, "Clear", l, e, 0)
	if l, e := drain.Clear(book(narrow())); len(l) > 0 || e != api.ErrNone {
		t.Errorf("narrow: Clear: %v, %d", l, e)
	}
	is, e := drain.Fits(book(), mark(0, 1, 4, 0))
	checkIs(t, "Fits 4", is, e, false)
	is, e = drain.Fits(book(), mark(1, 1, 6, 0))
	checkIs(t, "Fits 6", is, e, true)
	is, e = drain.Right(book(torn()))
	checkIs(t, "torn: Right", is, e, false)
	l, e = drain.Wrong(book(torn()))
	checkList(t, "torn: Wrong", l, e, 0)
	if s, e := drain.Water(book(torn()), 0, 0); s != (api.Span{}) || e != api.ErrDrainFalse {
		t.Errorf("torn: Water: %v, %d", s, e)
	}
}

// TestExampleOfOverview has the fifth example of DOC.md.
func TestExampleOfOverview(t *testing.T) {
	b := book(ditches(ditch(6, 3, blocked, river)), falls(4, 4))
	n, e := drain.Floods(b, 0)
	checkDay(t, "Floods", n, e, 1)
	n, e = drain.Surely(b, 0)
	checkDay(t, "Surely", n, e, 1)
}

// TestCheckLimits has books at the ends of each limit (P5.1).
func TestCheckLimits(t *testing.T) {
	small := ditch(0, 0, blocked, river)
	for i, b := range []api.DrainBook{
		book(), book(marked()), book(torn()), book(narrow()), chain(), full(),
		book(ditches(small), rain(just(0))), book(ditches(small, small, small, small)), book(ditches(ditch(20, 9, open, river))),
		book(ditches(ditch(1, 1, perhaps, 1), ditch(1, 1, perhaps, 2), ditch(1, 1, perhaps, 3), small)),
		book(ditches(ditch(1, 1, perhaps, 3), ditch(1, 1, perhaps, 3), ditch(1, 1, perhaps, 3), small)),
		book(rain(to(0, 2))), book(rain(to(7, 9), to(8, 9), just(9), just(0))), book(rain(to(0, 1))),
		book(marks(mark(1, 1, 20, 3))), book(marks(mark(0, 0, 0, 0))), book(marks(slices.Repeat([]api.DrainMark{mark(0, 1, 0, 3)}, 5)...)),
	} {
		if e := drain.Check(b); e != api.OK {
			t.Errorf("the valid book %d: %d", i, e)
		}
	}
}

// wrongBooks are books beyond the ends of each limit.
func wrongBooks() []api.DrainBook {
	one := ditch(1, 1, open, river)
	changes := []change{
		func(b *api.DrainBook) { *b = api.DrainBook{} },
		ditches(), ditches(one, one, one, one, one), rain(), falls(0, 0, 0, 0, 0),
		marks(slices.Repeat([]api.DrainMark{mark(0, 0, 0, 3)}, 6)...),
	}
	far := []int{math.MinInt, math.MinInt + 1, math.MaxInt - 1, math.MaxInt}
	for _, n := range append(far, -1, 21) {
		changes = append(changes, ditches(ditch(n, 1, open, river)), ditches(one, ditch(n, 1, open, river)))
		changes = append(changes, marks(mark(0, 0, n, 0)), marks(mark(0, 0, 3, 0), mark(1, 1, n, 3)))
	}
	for _, n := range append(far, -1, 10) {
		changes = append(changes, ditches(ditch(1, n, open, river)), ditches(one, ditch(1, n, open, river)))
		changes = append(changes, falls(n), falls(3, n), falls(3, 3, 3, n), rain(to(0, n)), rain(to(n, 9)), rain(just(3), to(n, n)))
	}
	for _, n := range append(far, -1, 3) {
		changes = append(changes, ditches(ditch(1, 1, n, river)), ditches(one, ditch(1, 1, n, river)))
	}
	for _, n := range append(far, -2, 0, 3) {
		changes = append(changes, ditches(ditch(1, 1, open, n), one, one))
	}
	for _, n := range append(far, -2, 0, 1, 3) {
		changes = append(changes, ditches(one, ditch(1, 1, open, n), one))
	}
	for _, n := range append(far, -2, 0, 1, 2, 3) {
		changes = append(changes, ditches(one, one, ditch(1, 1, open, n)))
	}
	for _, s := range []api.Span{to(1, 0), to(9, 0), to(0, 3), to(6, 9), to(0, 9), to(8, 10), to(9, 10), to(-1, 0), to(-1, 1), to(math.MinInt, math.MaxInt), to(math.MaxInt, math.MinInt)} {
		changes = append(changes, rain(s), rain(just(1), s))
	}
	for _, n := range append(far, -1, 2) {
		changes = append(changes, marks(mark(n, 0, 0, 0)), marks(mark(0, n, 0, 0)), marks(mark(0, 0, 3, 0), mark(n, 1, 0, 0)), marks(mark(0, 0, 3, 0), mark(1, n, 0, 0)))
	}
	for _, n := range append(far, -1, 4) {
		changes = append(changes, marks(mark(0, 0, 3, n)), marks(mark(0, 0, 3, 0), mark(1, 1, 3, n)))
	}
	var l []api.DrainBook
	for _, c := range changes {
		l = append(l, book(c))
	}
	return l
}

// TestErrDrain has wrong books: all functions return ErrDrain first, and nothing else (P5.1, P1).
func TestErrDrain(t *testing.T) {
	for i, b := range wrongBooks() {
		if e := drain.Check(b); e != api.ErrDrain {
			t.Errorf("the wrong book %d: Check: %d", i, e)
		}
		for _, n := range []int{0, -1, math.MinInt, math.MaxInt} {
			for name, a := range ask(b, question{n, n, mark(n, n, n, n)}) {
				if !isNothingBut(a, api.ErrDrain) {
					t.Errorf("the wrong book %d: %s of %d: %+v", i, name, n, a)
				}
			}
		}
	}
}

// TestErrDrainAsk has wrong questions: they come before a book that cannot be true (P5.2 to P5.4, P5.7).
func TestErrDrainAsk(t *testing.T) {
	for _, b := range []api.DrainBook{book(), book(torn()), book(falls(2), marks(mark(0, 0, 20, 3))), full(), chain()} {
		hold := func(q question, names ...string) {
			all := ask(b, q)
			for _, name := range names {
				if !isNothingBut(all[name], api.ErrDrainAsk) {
					t.Errorf("%s of %+v: %+v", name, q, all[name])
				}
			}
		}
		far := []int{-1, math.MinInt, math.MaxInt}
		for _, n := range append(far, len(b.Ditches)) {
			hold(question{ditch: n, mark: mark(n, 0, 0, 0)}, "Water", "Open", "Floods", "Surely", "Fits")
		}
		for _, n := range append(far, len(b.Rain)) {
			hold(question{day: n, mark: mark(0, n, 0, 0)}, "Water", "Rain", "Fits")
		}
		for _, n := range append(far, 21) {
			hold(question{mark: mark(0, 0, n, 0)}, "Fits")
		}
		for _, n := range append(far, 4) {
			hold(question{mark: mark(0, 0, 0, n)}, "Fits")
		}
	}
}

// TestErrDrainFalse has books that cannot be true (P5.1 to P5.7).
func TestErrDrainFalse(t *testing.T) {
	for i, b := range []api.DrainBook{
		book(torn()),
		book(marks(mark(0, 0, 5, 0))), book(marks(mark(0, 0, 8, 3))), book(marks(mark(0, 1, 7, 0))), book(marks(mark(0, 0, 4, 0), mark(0, 0, 3, 0))),
		book(marks(mark(0, 0, 0, 0), mark(0, 1, 6, 0))),
		full(marks(mark(3, 3, 0, 3), mark(0, 0, 20, 3))),
	} {
		all := ask(b, question{})
		for _, name := range []string{"Water", "Open", "Rain", "Floods", "Surely", "First", "Clear", "Fits"} {
			if !isNothingBut(all[name], api.ErrDrainFalse) {
				t.Errorf("the torn book %d: %s: %+v", i, name, all[name])
			}
		}
		if a := all["Right"]; a.is || a.e != api.OK {
			t.Errorf("the torn book %d: Right: %+v", i, a)
		}
		if a := all["Wrong"]; len(a.list) == 0 || a.e != api.OK {
			t.Errorf("the torn book %d: Wrong: %+v", i, a)
		}
	}
}

// TestWater has ditches that hold water, let it through, and flood the road (P5.2).
func TestWater(t *testing.T) {
	one := func(holds, lets, state int) change { return ditches(ditch(holds, lets, state, river)) }
	for i, x := range []struct {
		b     api.DrainBook
		water [][]api.Span
	}{
		{book(falls(0)), [][]api.Span{{just(0)}, {just(0)}}},
		{book(one(20, 9, blocked), falls(4, 5, 0, 1)), [][]api.Span{{just(4), just(9), just(9), just(10)}}},
		{book(one(20, 9, open), falls(4, 5, 0, 1)), [][]api.Span{{just(0), just(0), just(0), just(0)}}},
		{book(one(20, 2, open), falls(4, 5, 0, 0)), [][]api.Span{{just(2), just(5), just(3), just(1)}}},
		{book(one(20, 2, perhaps), falls(4, 5, 0, 0)), [][]api.Span{{to(2, 4), to(5, 9), to(3, 9), to(1, 9)}}},
		{book(one(20, 0, perhaps), falls(4, 5)), [][]api.Span{{just(4), just(9)}}},
		// Water runs out before any floods; what floods is lost.
		{book(one(5, 4, open), falls(9, 9, 0)), [][]api.Span{{just(5), just(5), just(1)}}},
		{book(one(6, 3, blocked), falls(4, 4, 0)), [][]api.Span{{just(4), just(6), just(6)}}},
		{book(one(0, 4, open), falls(4, 5, 9)), [][]api.Span{{just(0), just(0), just(0)}}},
		// What runs out of a ditch comes into the one below on the same day, and may run out of it, too.
		{book(ditches(ditch(20, 9, open, 1), ditch(20, 9, open, river)), falls(9, 9, 9, 9)), [][]api.Span{{just(0), just(0), just(0), just(0)}, {just(9), just(18), just(20), just(20)}}},
		{book(ditches(ditch(20, 9, open, 1), ditch(20, 9, open, river)), falls(4, 4)), [][]api.Span{{just(0), just(0)}, {just(0), just(0)}}},
		{book(ditches(ditch(20, 2, open, 2), ditch(20, 9, blocked, 2), ditch(20, 1, open, river)), falls(3, 0)), [][]api.Span{{just(1), just(0)}, {just(3), just(3)}, {just(4), just(4)}}},
		// What floods does not run on.
		{book(ditches(ditch(1, 2, open, 1), ditch(20, 9, blocked, river)), falls(9, 0)), [][]api.Span{{just(1), just(0)}, {just(11), just(12)}}},
		{chain(), [][]api.Span{{to(0, 2), to(0, 4)}, {to(0, 4), to(0, 5)}, {just(0), just(0)}, {to(4, 8), to(8, 16)}}},
		{chain(marks(mark(3, 1, 16, 0))), [][]api.Span{{just(0), just(0)}, {just(0), just(0)}, {just(0), just(0)}, {just(8), just(16)}}},
		{book(rain(to(2, 4)), one(20, 3, open)), [][]api.Span{{to(0, 1)}}},
		// A mark of a later day tells of an earlier one, and one of a ditch of that above.
		{book(marks(mark(0, 1, 6, 0))), [][]api.Span{{to(3, 4), just(6)}, {just(0), to(0, 1)}}},
		{book(marks(mark(1, 0, 2, 0))), [][]api.Span{{just(0), to(1, 2)}, {just(2), to(5, 6)}}},
		{book(marks(mark(0, 0, 2, 2))), [][]api.Span{{to(0, 4), to(1, 6)}, {to(0, 3), to(0, 7)}}},
		{book(marks(mark(0, 0, 2, 1))), [][]api.Span{{to(1, 3), to(2, 6)}, {to(0, 3), to(0, 7)}}},
	} {
		for ditch, row := range x.water {
			for day, want := range row {
				s, e := drain.Water(x.b, ditch, day)
				if s != want || e != api.OK {
					t.Errorf("Water %d of %d on %d: %v, %d; want %v", i, ditch, day, s, e, want)
				}
			}
		}
	}
}

// TestOpenAndRain has drains and rain of which marks tell, and of which they do not (P5.3).
func TestOpenAndRain(t *testing.T) {
	three := ditches(ditch(20, 1, blocked, river), ditch(20, 1, perhaps, river), ditch(20, 1, open, river))
	for i, x := range []struct {
		b    api.DrainBook
		open []int
		rain []api.Span
	}{
		{book(), []int{perhaps, open}, []api.Span{to(3, 4), to(4, 5)}},
		{book(marks(mark(0, 0, 1, 0))), []int{open, open}, []api.Span{just(4), to(4, 5)}},
		{book(marks(mark(0, 0, 1, 1))), []int{open, open}, []api.Span{to(3, 4), to(4, 5)}},
		{book(marks(mark(1, 1, 7, 0))), []int{open, open}, []api.Span{just(4), just(5)}},
		{book(marks(mark(0, 0, 2, 1))), []int{perhaps, open}, []api.Span{to(3, 4), to(4, 5)}},
		{book(three, rain(to(3, 5))), []int{blocked, perhaps, open}, []api.Span{to(3, 5)}},
		{book(three, rain(to(3, 5)), marks(mark(1, 0, 2, 0))), []int{blocked, open, open}, []api.Span{just(3)}},
		{book(three, rain(to(3, 5)), marks(mark(1, 0, 4, 0))), []int{blocked, perhaps, open}, []api.Span{to(4, 5)}},
		{book(three, rain(to(3, 5)), marks(mark(1, 0, 4, 0), mark(2, 0, 3, 0))), []int{blocked, blocked, open}, []api.Span{just(4)}},
		{book(three, rain(to(3, 5), to(0, 2)), marks(mark(0, 1, 7, 0))), []int{blocked, perhaps, open}, []api.Span{just(5), just(2)}},
		// A drain that lets nothing through is the same, open or blocked.
		{book(ditches(ditch(20, 0, perhaps, river)), falls(3), marks(mark(0, 0, 3, 0))), []int{perhaps}, []api.Span{just(3)}},
		{chain(marks(mark(3, 1, 16, 0))), []int{open, open, open, perhaps}, []api.Span{just(2), just(2)}},
	} {
		for ditch, want := range x.open {
			n, e := drain.Open(x.b, ditch)
			if n != want || e != api.OK {
				t.Errorf("Open %d of %d: %d, %d; want %d", i, ditch, n, e, want)
			}
		}
		for day, want := range x.rain {
			s, e := drain.Rain(x.b, day)
			if s != want || e != api.OK {
				t.Errorf("Rain %d on %d: %v, %d; want %v", i, day, s, e, want)
			}
		}
	}
}

// TestFloods has ditches that may flood the road, surely do, and never do (P5.4, P5.5).
func TestFloods(t *testing.T) {
	one := func(holds, lets, state int) change { return ditches(ditch(holds, lets, state, river)) }
	for i, x := range []struct {
		b              api.DrainBook
		floods, surely []int
		ditch, day     int
	}{
		{book(falls(0)), []int{none, none}, []int{none, none}, 0, none},
		// What a ditch holds does not flood.
		{book(one(8, 3, blocked), falls(4, 4)), []int{none}, []int{none}, 0, none},
		{book(one(7, 3, blocked), falls(4, 4)), []int{1}, []int{1}, 0, 1},
		{book(one(0, 4, open), falls(4)), []int{none}, []int{none}, 0, none},
		{book(one(0, 4, open), falls(5)), []int{0}, []int{0}, 0, 0},
		{book(one(0, 4, perhaps), falls(3, 5)), []int{0}, []int{1}, 0, 0},
		{book(one(0, 0, blocked), rain(to(0, 2), to(1, 2))), []int{0}, []int{1}, 0, 0},
		{book(one(0, 0, blocked), rain(to(0, 2), to(0, 2))), []int{0}, []int{none}, 0, 0},
		// It surely floods on one of two days, but surely on neither.
		{book(one(2, 2, open), rain(to(3, 5), to(2, 3)), marks(mark(0, 0, 2, 0))), []int{0}, []int{none}, 0, 0},
		{book(one(5, 0, blocked), rain(to(4, 6), to(0, 2)), marks(mark(0, 1, 5, 0))), []int{0}, []int{none}, 0, 0},
		{book(one(8, 0, blocked), rain(to(3, 5), to(3, 5)), marks(mark(0, 1, 8, 0), mark(0, 0, 5, 1))), []int{1}, []int{none}, 0, 1},
		// The day comes before the ditch, of both the first ones.
		{book(ditches(ditch(5, 0, blocked, river), ditch(3, 0, blocked, river)), falls(4, 4)), []int{1, 0}, []int{1, 0}, 1, 0},
		{book(ditches(ditch(3, 0, blocked, river), ditch(3, 0, blocked, river)), falls(4, 4)), []int{0, 0}, []int{0, 0}, 0, 0},
		{book(ditches(ditch(20, 0, blocked, river), ditch(3, 0, blocked, river)), falls(3, 4)), []int{none, 1}, []int{none, 1}, 1, 1},
		{book(narrow()), []int{1, 1}, []int{none, none}, 0, 1},
		{book(narrow(), marks(mark(0, 0, 0, 0))), []int{none, 1}, []int{none, 1}, 1, 1},
		{chain(), []int{none, 1, none, none}, []int{none, none, none, none}, 1, 1},
		{full(marks()), []int{2, 1, 1, 1}, []int{none, none, none, none}, 1, 1},
	} {
		for ditch, want := range x.floods {
			n, e := drain.Floods(x.b, ditch)
			if !isDay(n, e, want) {
				t.Errorf("Floods %d of %d: %d, %d; want %d", i, ditch, n, e, want)
			}
		}
		for ditch, want := range x.surely {
			n, e := drain.Surely(x.b, ditch)
			if !isDay(n, e, want) {
				t.Errorf("Surely %d of %d: %d, %d; want %d", i, ditch, n, e, want)
			}
		}
		ditch, day, e := drain.First(x.b)
		if !isDay(day, e, x.day) || ditch != x.ditch {
			t.Errorf("First %d: %d, %d, %d; want %d, %d", i, ditch, day, e, x.ditch, x.day)
		}
	}
}

// TestClear has drains that must be cleared: the fewest, and the first of several lists (P5.6).
func TestClear(t *testing.T) {
	small := func(state, down int) api.DrainDitch { return ditch(1, 9, state, down) }
	for i, x := range []struct {
		b    api.DrainBook
		want []int
		e    api.Errno
	}{
		{book(falls(0)), nil, api.OK},
		{book(marks(mark(0, 0, 0, 0))), nil, api.OK},
		{book(marked()), []int{0}, api.OK},
		{book(narrow(), marks(mark(0, 0, 0, 0))), nil, api.ErrNone},
		{book(ditches(small(blocked, river)), falls(4)), []int{0}, api.OK},
		{book(ditches(small(blocked, river)), falls(1)), nil, api.OK},
		{book(ditches(ditch(1, 2, open, river)), falls(4)), nil, api.ErrNone},
		{book(ditches(ditch(1, 2, perhaps, river)), falls(4)), nil, api.ErrNone},
		{book(ditches(ditch(1, 2, perhaps, river)), falls(3)), []int{0}, api.OK},
		{book(ditches(small(open, river), small(perhaps, river), small(blocked, river)), falls(4)), []int{1, 2}, api.OK},
		{book(ditches(small(blocked, river), small(blocked, river), small(blocked, river), small(blocked, river)), falls(4)), []int{0, 1, 2, 3}, api.OK},
		// A drain that is cleared may flood the ditch below, so that it must be cleared, too, or cannot be.
		{book(ditches(ditch(3, 4, blocked, 1), ditch(4, 4, blocked, river)), falls(4)), []int{0, 1}, api.OK},
		{book(ditches(ditch(3, 4, blocked, 1), ditch(3, 4, open, river)), falls(4)), nil, api.ErrNone},
		{book(ditches(ditch(8, 4, blocked, 1), ditch(4, 4, blocked, river)), falls(4, 4)), []int{1}, api.OK},
		{book(ditches(ditch(3, 4, blocked, 1), ditch(4, 4, open, river)), falls(4)), []int{0}, api.OK},
		// A single later drain is better than two earlier ones; marks tell which one is blocked.
		{book(ditches(ditch(4, 9, perhaps, river), ditch(4, 9, perhaps, river)), falls(4, 4)), []int{0, 1}, api.OK},
		{book(ditches(ditch(4, 9, perhaps, river), ditch(4, 9, perhaps, river)), falls(4, 4), marks(mark(0, 0, 0, 3))), []int{1}, api.OK},
		// Rain that may fall counts, even where marks do not bind it.
		{book(ditches(ditch(4, 3, blocked, river)), rain(to(4, 5))), []int{0}, api.OK},
		{book(ditches(ditch(4, 3, blocked, river)), rain(to(4, 5)), marks(mark(0, 0, 4, 0))), []int{0}, api.OK},
		{book(ditches(ditch(5, 3, blocked, river)), rain(to(4, 5)), marks(mark(0, 0, 4, 0))), nil, api.OK},
		{chain(), []int{1}, api.OK},
		{full(marks()), nil, api.ErrNone},
	} {
		l, e := drain.Clear(x.b)
		if !slices.Equal(l, x.want) || e != x.e {
			t.Errorf("Clear %d: %v, %d; want %v, %d", i, l, e, x.want, x.e)
		}
	}
}

// TestFits has all marks of a ditch and a day (P5.7).
func TestFits(t *testing.T) {
	five := slices.Repeat([]api.DrainMark{mark(0, 0, 3, 0)}, 5)
	for i, x := range []struct {
		b                 api.DrainBook
		ditch, day, wrong int
		want              []int
	}{
		{book(), 0, 0, 0, []int{0, 1, 3, 4}}, {book(), 0, 0, 1, []int{0, 1, 2, 3, 4, 5}}, {book(), 0, 0, 3, []int{0, 1, 2, 3, 4, 5, 6, 7}},
		{book(), 0, 1, 0, []int{1, 2, 3, 6}}, {book(), 1, 1, 0, []int{0, 1, 5, 6, 7}}, {book(), 1, 1, 2, []int{0, 1, 2, 3, 4, 5, 6, 7, 8, 9}},
		{book(marks(five...)), 0, 0, 0, []int{3}}, {book(marks(five...)), 0, 1, 1, []int{5, 6, 7}}, {book(marks(five...)), 1, 1, 0, []int{0, 1}},
		{book(falls(0)), 1, 0, 2, []int{0, 1, 2}},
		{full(marks()), 0, 3, 0, []int{0, 20}}, {full(marks()), 0, 3, 3, []int{0, 1, 2, 3, 17, 18, 19, 20}},
	} {
		for read := range api.DrainHolds + 1 {
			is, e := drain.Fits(x.b, mark(x.ditch, x.day, read, x.wrong))
			if is != slices.Contains(x.want, read) || e != api.OK {
				t.Errorf("Fits %d, %d: %v, %d", i, read, is, e)
			}
		}
	}
}

// TestWrong has marks that must be wrong: the fewest, and the first of several lists (P5.8, P5.1).
func TestWrong(t *testing.T) {
	dry := func(l ...api.DrainMark) api.DrainBook {
		return book(ditches(ditch(20, 3, perhaps, river)), falls(3, 3), marks(l...))
	}
	for i, x := range []struct {
		b    api.DrainBook
		want []int
	}{
		{book(), nil}, {book(marked()), nil}, {full(), nil}, {chain(), nil},
		{book(marks(mark(0, 0, 2, 0))), []int{0}},
		{book(marks(mark(0, 0, 2, 1))), nil},
		{dry(mark(0, 0, 0, 0), mark(0, 1, 0, 0)), nil},
		{dry(mark(0, 0, 3, 0), mark(0, 1, 6, 0)), nil},
		{dry(mark(0, 0, 3, 0), mark(0, 1, 0, 0)), []int{0}},
		{dry(mark(0, 0, 0, 0), mark(0, 1, 6, 0)), []int{0}},
		{dry(mark(0, 0, 2, 0), mark(0, 1, 5, 0)), []int{0, 1}},
		{dry(mark(0, 0, 2, 0), mark(0, 1, 5, 1)), []int{0}},
		// A single later mark is better than two earlier ones.
		{dry(mark(0, 0, 3, 0), mark(0, 1, 6, 0), mark(0, 0, 0, 0)), []int{2}},
		{dry(mark(0, 0, 3, 0), mark(0, 1, 0, 0), mark(0, 0, 0, 0)), []int{0}},
		{dry(mark(0, 0, 3, 0), mark(0, 1, 0, 0), mark(0, 0, 0, 0), mark(0, 1, 6, 0)), []int{0, 3}},
		{dry(mark(0, 1, 0, 0), mark(0, 1, 3, 0), mark(0, 0, 3, 0), mark(0, 1, 0, 0), mark(0, 0, 9, 3)), []int{1, 2, 4}},
		{dry(slices.Repeat([]api.DrainMark{mark(0, 0, 10, 3)}, 5)...), []int{0, 1, 2, 3, 4}},
		{full(marks(slices.Repeat([]api.DrainMark{mark(0, 0, 20, 3)}, 5)...)), []int{0, 1, 2, 3, 4}},
	} {
		l, e := drain.Wrong(x.b)
		if !slices.Equal(l, x.want) || e != api.OK {
			t.Errorf("Wrong %d: %v, %d; want %v", i, l, e, x.want)
		}
		is, e := drain.Right(x.b)
		if is != (len(x.want) == 0) || e != api.OK {
			t.Errorf("Right %d: %v, %d", i, is, e)
		}
	}
}

func cloneBook(b api.DrainBook) api.DrainBook {
	return api.DrainBook{Ditches: slices.Clone(b.Ditches), Rain: slices.Clone(b.Rain), Marks: slices.Clone(b.Marks)}
}

// TestArguments asks with lists behind whose ends the caller keeps something (P5.9).
func TestArguments(t *testing.T) {
	for _, all := range []api.DrainBook{book(torn()), full(), chain(marks(mark(0, 0, 2, 1), mark(0, 1, 4, 3)))} {
		for count := range len(all.Marks) + 1 {
			kept := cloneBook(all)
			b := kept
			b.Marks = kept.Marks[:count]
			drain.Check(b)
			ask(b, question{})
			ask(b, question{1, 1, mark(1, 1, 5, 1)})
			if !reflect.DeepEqual(kept, all) {
				t.Errorf("with %d marks: %+v", count, kept)
			}
		}
	}
}

// TestResults writes into results, and behind their ends, and into arguments afterwards: neither changes another result (P5.9, P2).
func TestResults(t *testing.T) {
	b := book(ditches(ditch(1, 9, blocked, river), ditch(1, 9, blocked, river)), falls(4))
	one, _ := drain.Clear(b)
	two, _ := drain.Clear(b)
	clear(one[:cap(one)])
	_ = append(one[:1], 7)
	b.Ditches[0].State = open
	checkList(t, "Clear", two, api.OK, 0, 1)
	two, e := drain.Clear(b)
	checkList(t, "Clear of another book", two, e, 1)
	b = book(marks(mark(0, 0, 9, 0), mark(0, 0, 9, 0)))
	one, _ = drain.Wrong(b)
	two, _ = drain.Wrong(b)
	one[0], one[1] = 9, 9
	b.Marks[0].Read, b.Marks[1].Read = 3, 3
	checkList(t, "Wrong", two, api.OK, 0, 1)
	two, e = drain.Wrong(b)
	checkList(t, "Wrong of another book", two, e)
	q := question{1, 1, mark(1, 1, 6, 0)}
	before := ask(book(), q)
	ask(book(torn()), q)
	ask(full(), q)
	if again := ask(book(), q); !reflect.DeepEqual(before, again) {
		t.Errorf("once more: %+v; first %+v", again, before)
	}
}

// TestNilAndEmpty has nil lists and empty ones (R3).
func TestNilAndEmpty(t *testing.T) {
	one, two := book(), book()
	two.Marks = []api.DrainMark{}
	if a, b := ask(one, question{}), ask(two, question{}); !reflect.DeepEqual(a, b) {
		t.Errorf("nil %+v; empty %+v", a, b)
	}
	for i, c := range []change{func(b *api.DrainBook) { b.Ditches = []api.DrainDitch{} }, func(b *api.DrainBook) { b.Rain = []api.Span{} }} {
		if e := drain.Check(book(c)); e != api.ErrDrain {
			t.Errorf("the empty list %d: %d", i, e)
		}
	}
}
