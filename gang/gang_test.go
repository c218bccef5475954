package gang_test

import (
	"math"
	"reflect"
	"slices"
	"testing"

	"macadam/api"
	"macadam/gang"
)

func to(low, high int) api.Span { return api.Span{Low: low, High: high} }

func just(n int) api.Span { return to(n, n) }

func mile(needs api.Span, mails int) api.GangMile { return api.GangMile{Needs: needs, Mails: mails} }

func reaches(from, to int, works api.Span) api.GangGang {
	return api.GangGang{From: from, To: to, Works: works}
}

func work(night, gang, mile int) api.GangWork {
	return api.GangWork{Night: night, Gang: gang, Mile: mile}
}

// works is a night, a gang and a mile, and so on.
func works(l ...int) []api.GangWork {
	var all []api.GangWork
	for w := range slices.Chunk(l, 3) {
		all = append(all, work(w[0], w[1], w[2]))
	}
	return all
}

type change func(b *api.GangBook)

// book is that of the chapter's examples, changed.
func book(changes ...change) api.GangBook {
	b := api.GangBook{
		Miles:  []api.GangMile{mile(to(2, 3), 0), mile(to(1, 2), 1), mile(just(2), 2)},
		Gangs:  []api.GangGang{reaches(0, 1, to(1, 2)), reaches(1, 2, just(2))},
		Nights: 4,
	}
	for _, c := range changes {
		c(&b)
	}
	return b
}

func nights(n int) change { return func(b *api.GangBook) { b.Nights = n } }

func miles(l ...api.GangMile) change { return func(b *api.GangBook) { b.Miles = l } }

func gangs(l ...api.GangGang) change { return func(b *api.GangBook) { b.Gangs = l } }

func needs(n int, s api.Span) change { return func(b *api.GangBook) { b.Miles[n].Needs = s } }

func mails(n, set int) change { return func(b *api.GangBook) { b.Miles[n].Mails = set } }

func does(n int, s api.Span) change { return func(b *api.GangBook) { b.Gangs[n].Works = s } }

func goes(n, from, to int) change {
	return func(b *api.GangBook) { b.Gangs[n].From, b.Gangs[n].To = from, to }
}

// far is the book whose gang 1 reaches the mile 1 alone.
func far() change { return goes(1, 1, 1) }

// lone is a book of a mile, and a gang that reaches it.
func lone(needs, works api.Span, mails, nights int) api.GangBook {
	return api.GangBook{Miles: []api.GangMile{mile(needs, mails)}, Gangs: []api.GangGang{reaches(0, 0, works)}, Nights: nights}
}

// full has as much of everything as is allowed: four miles that all gangs reach on four nights.
func full(need int, works ...int) api.GangBook {
	b := api.GangBook{Miles: slices.Repeat([]api.GangMile{mile(just(need), 0)}, api.GangMiles), Nights: api.GangNights}
	for _, n := range works {
		b.Gangs = append(b.Gangs, reaches(0, 3, just(n)))
	}
	return b
}

// answer is what a function returns; what does not apply to it is zero.
type answer struct {
	is   bool
	n    int
	span api.Span
	list []int
	plan []api.GangWork
	e    api.Errno
}

func isNothingBut(a answer, e api.Errno) bool {
	return !a.is && a.n == 0 && a.span == (api.Span{}) && len(a.list) == 0 && len(a.plan) == 0 && a.e == e
}

// question is the numbers with which functions are asked.
type question struct{ gang, mile, night int }

// ask calls all functions but Check.
func ask(b api.GangBook, plan []api.GangWork, q question) map[string]answer {
	all := map[string]answer{}
	var a answer
	put := func(name string) { all[name], a = a, answer{} }
	a.list, a.e = gang.Can(b, q.gang, q.mile)
	put("Can")
	a.is, a.e = gang.May(b, plan)
	put("May")
	a.list, a.e = gang.Closed(b, plan, q.night)
	put("Closed")
	a.span, a.e = gang.Done(b, plan, q.mile)
	put("Done")
	a.list, a.e = gang.Mended(b, plan)
	put("Mended")
	a.n, a.e = gang.Open(b, plan)
	put("Open")
	a.plan, a.e = gang.Plan(b)
	put("Plan")
	a.list, a.e = gang.Most(b)
	put("Most")
	a.n, a.e = gang.First(b)
	put("First")
	return all
}

func checkList(t *testing.T, what string, got []int, e api.Errno, want ...int) {
	t.Helper()
	if !slices.Equal(got, want) || e != api.OK {
		t.Errorf("%s: %v, %d; want %v", what, got, e, want)
	}
}

func checkNumber(t *testing.T, what string, got int, e api.Errno, want int, f api.Errno) {
	t.Helper()
	if got != want || e != f {
		t.Errorf("%s: %d, %d; want %d, %d", what, got, e, want, f)
	}
}

func checkPlan(t *testing.T, what string, got []api.GangWork, e api.Errno, want []api.GangWork) {
	t.Helper()
	if !slices.Equal(got, want) || e != api.OK {
		t.Errorf("%s: %v, %d; want %v", what, got, e, want)
	}
}

// TestExamples has the examples of the chapter.
func TestExamples(t *testing.T) {
	l, e := gang.Can(book(), 0, 1)
	checkList(t, "Can 0, 1", l, e, 1, 2, 3)
	l, e = gang.Can(book(), 1, 2)
	checkList(t, "Can 1, 2", l, e, 0, 2, 3)
	l, e = gang.Can(book(), 0, 2)
	checkList(t, "Can 0, 2", l, e)
	for i, plan := range [][]api.GangWork{works(0, 0, 0, 0, 1, 2), works(0, 0, 0, 0, 1, 1), works(1, 0, 0, 1, 1, 1), works(0, 1, 2, 0, 0, 0)} {
		if is, e := gang.May(book(), plan); is != (i == 0) || e != api.OK {
			t.Errorf("May %v: %v, %d", plan, is, e)
		}
	}
	two := works(0, 0, 0, 0, 1, 2)
	l, e = gang.Closed(book(), two, 0)
	checkList(t, "Closed", l, e, 0, 2)
	if s, e := gang.Done(book(), works(0, 0, 0, 1, 0, 0), 0); s != to(2, 4) || e != api.OK {
		t.Errorf("Done: %v, %d", s, e)
	}
	l, e = gang.Mended(book(), two)
	checkList(t, "Mended", l, e, 2)
	n, e := gang.Open(book(), two)
	checkNumber(t, "Open", n, e, 0, api.OK)
	plan, e := gang.Plan(book())
	checkPlan(t, "Plan", plan, e, works(0, 0, 0, 0, 1, 2, 1, 0, 0, 2, 0, 0, 3, 1, 1))
	short := ask(book(nights(3)), nil, question{})
	if !isNothingBut(short["Plan"], api.ErrNone) || !isNothingBut(short["First"], api.ErrNone) {
		t.Errorf("short: Plan %+v, First %+v", short["Plan"], short["First"])
	}
	checkList(t, "short: Most", short["Most"].list, short["Most"].e, 0, 2)
	n, e = gang.First(book(far()))
	checkNumber(t, "far: First", n, e, 2, api.OK)
	l, e = gang.Most(book(far()))
	checkList(t, "far: Most", l, e, 0, 1)
}

// TestExampleOfOverview has the fourth example of DOC.md.
func TestExampleOfOverview(t *testing.T) {
	b := full(6, 1)
	b.Miles[1].Needs = to(1, 3)
	plan := works(0, 0, 1, 1, 0, 1, 2, 0, 1)
	l, e := gang.Mended(b, plan)
	checkList(t, "Mended", l, e, 1)
	for _, beside := range []int{0, 2} {
		for night := range 3 {
			if is, e := gang.May(full(6, 1, 1), append(plan[:night+1:night+1], work(night, 1, beside))); is || e != api.OK {
				t.Errorf("May on the night %d at %d: %v, %d", night, beside, is, e)
			}
		}
	}
	got, e := gang.Plan(lone(to(1, 3), just(1), 0, 4))
	checkPlan(t, "Plan", got, e, works(0, 0, 0, 1, 0, 0, 2, 0, 0))
}

// TestCheckLimits has books at the ends of each limit (P4.1).
func TestCheckLimits(t *testing.T) {
	small, strong := mile(just(1), 0), reaches(0, 0, just(1))
	for i, b := range []api.GangBook{
		book(), book(far()), full(6, 3, 3), full(1, 1), lone(just(1), just(1), 0, 1), lone(just(6), just(3), 15, 4),
		book(nights(1)), book(nights(4)), book(miles(small), gangs(strong)), book(miles(small, small, small, small)),
		book(needs(0, to(1, 3))), book(needs(0, to(4, 6))), book(needs(2, just(6))), book(needs(2, just(1))), book(needs(1, to(5, 6))),
		book(mails(0, 15), mails(1, 0), mails(2, 8)), book(mails(0, 15), nights(1)), book(gangs(strong)),
		book(goes(0, 0, 0)), book(goes(0, 2, 2)), book(goes(1, 0, 2)), book(goes(0, 0, 2), goes(1, 0, 2)), book(miles(small, small, small, small), goes(1, 3, 3)),
		book(does(0, to(1, 3))), book(does(0, just(3))), book(does(1, just(1))), book(does(1, to(2, 3))),
	} {
		if e := gang.Check(b); e != api.OK {
			t.Errorf("the valid book %d: %d", i, e)
		}
	}
}

// wrongBooks are books beyond the ends of each limit.
func wrongBooks() []api.GangBook {
	small, strong := mile(just(1), 0), reaches(0, 0, just(1))
	changes := []change{
		func(b *api.GangBook) { *b = api.GangBook{} },
		miles(), gangs(), miles(slices.Repeat([]api.GangMile{small}, 5)...), gangs(strong, strong, strong),
		func(b *api.GangBook) { b.Miles, b.Gangs[0].To, b.Gangs[1].To = b.Miles[:1], 0, 0 },
		goes(0, 1, 0), goes(1, 2, 1), goes(1, 2, 0),
	}
	for _, n := range []int{-1, 0, 5, math.MinInt, math.MaxInt} {
		changes = append(changes, nights(n))
	}
	for _, n := range []int{-1, 16, 17, 32, math.MinInt, math.MaxInt} {
		changes = append(changes, mails(0, n), mails(2, n))
	}
	for _, n := range []int{-1, 3, 4, math.MinInt, math.MaxInt} {
		for _, g := range []int{0, 1} {
			changes = append(changes, goes(g, n, 2), goes(g, 0, n), goes(g, n, n))
		}
	}
	ends := []api.Span{just(0), just(-1), to(0, 1), to(2, 1), to(3, 1), to(-1, 1), to(1, 0), to(math.MinInt, math.MaxInt), to(math.MaxInt, math.MinInt), to(1, math.MaxInt), to(math.MinInt, 1), just(math.MinInt), just(math.MaxInt)}
	for _, s := range ends {
		changes = append(changes, needs(0, s), needs(2, s), does(0, s), does(1, s))
	}
	for _, s := range []api.Span{just(7), to(6, 7), to(5, 7), to(1, 4), to(3, 6), to(1, 6), to(4, 3)} {
		changes = append(changes, needs(0, s), needs(2, s))
	}
	for _, s := range []api.Span{just(4), to(3, 4), to(2, 4), to(1, 4)} {
		changes = append(changes, does(0, s), does(1, s))
	}
	var l []api.GangBook
	for _, c := range changes {
		l = append(l, book(c))
	}
	return l
}

// TestErrGang has wrong books: all functions return ErrGang first, and nothing else (P4.1, P1).
func TestErrGang(t *testing.T) {
	for i, b := range wrongBooks() {
		if e := gang.Check(b); e != api.ErrGang {
			t.Errorf("the wrong book %d: Check: %d", i, e)
		}
		for _, n := range []int{0, -1, math.MinInt, math.MaxInt} {
			for _, plan := range [][]api.GangWork{nil, works(0, 0, 0), works(n, n, n)} {
				for name, a := range ask(b, plan, question{n, n, n}) {
					if !isNothingBut(a, api.ErrGang) {
						t.Errorf("the wrong book %d: %s of %d, %v: %+v", i, name, n, plan, a)
					}
				}
			}
		}
	}
}

// noPlans are works that are not a plan of the chapter's book.
func noPlans() [][]api.GangWork {
	l := [][]api.GangWork{
		// A gang works at one mile a night, and works are told in their order.
		works(0, 0, 0, 0, 0, 0), works(1, 0, 0, 1, 0, 1), works(1, 0, 0, 0, 0, 0), works(0, 1, 2, 0, 0, 0), works(0, 0, 0, 1, 0, 0, 0, 1, 2), works(2, 1, 2, 2, 1, 1),
		// Nights of the mail, and miles that a gang does not reach.
		works(0, 0, 1), works(0, 1, 1), works(1, 1, 2), works(0, 0, 0, 1, 1, 2), works(0, 0, 2), works(2, 1, 0),
		// Miles that follow each other, or are the same.
		works(1, 0, 0, 1, 1, 1), works(2, 0, 1, 2, 1, 1), works(2, 0, 1, 2, 1, 2), works(0, 0, 0, 0, 1, 2, 3, 0, 1, 3, 1, 1),
		// More works than there are places for.
		slices.Repeat(works(0, 0, 0), 1000),
	}
	for _, n := range []int{-1, 4, math.MinInt, math.MaxInt} {
		l = append(l, works(n, 0, 0), works(0, n, 0), works(0, 0, n), works(n, n, n), works(0, 0, 0, n, 0, 0), works(0, 0, 0, 0, n, 2), works(0, 0, 0, 0, 1, n))
	}
	return append(l, works(0, 2, 0), works(0, 0, 3))
}

// TestMay has works that are a plan, and works that are not (P4.2).
func TestMay(t *testing.T) {
	for i, x := range []struct {
		b    api.GangBook
		plan []api.GangWork
		want bool
	}{
		{book(), nil, true}, {book(), works(3, 1, 2), true}, {book(), works(1, 0, 1), true}, {book(), works(2, 0, 1, 3, 1, 1), true}, {book(), works(2, 1, 1, 3, 0, 1), true},
		{book(), works(0, 0, 0, 0, 1, 2, 1, 0, 0, 2, 0, 0, 2, 1, 2, 3, 0, 0, 3, 1, 2), true},
		{book(nights(3)), works(2, 0, 0), true}, {book(nights(3)), works(3, 0, 0), false}, {book(nights(1)), works(1, 0, 0), false},
		{book(far()), works(2, 1, 1), true}, {book(far()), works(2, 1, 2), false}, {book(mails(0, 15)), works(2, 0, 0), false}, {book(mails(0, 11)), works(2, 0, 0), true},
		// Of two works on one night either may be at the mile that is further on.
		{full(1, 1, 1), works(0, 0, 2, 0, 1, 0), true}, {full(1, 1, 1), works(0, 0, 3, 0, 1, 0), true}, {full(1, 1, 1), works(0, 0, 3, 0, 1, 1), true}, {full(1, 1, 1), works(0, 0, 1, 0, 1, 3), true},
		{full(1, 1, 1), works(0, 0, 2, 0, 1, 1), false}, {full(1, 1, 1), works(0, 0, 1, 0, 1, 2), false}, {full(1, 1, 1), works(0, 0, 3, 0, 1, 3), false}, {full(1, 1, 1), works(0, 0, 3, 0, 1, 2), false},
		// On different nights they may follow each other.
		{full(1, 1, 1), works(0, 0, 2, 1, 1, 1, 2, 0, 2, 3, 1, 2), true}, {full(1, 1), works(0, 0, 0, 0, 1, 2), false},
		{full(1, 1, 1), slices.Concat(works(0, 0, 0, 0, 1, 2, 1, 0, 1, 1, 1, 3), works(2, 0, 2, 2, 1, 0, 3, 0, 3, 3, 1, 1)), true},
	} {
		if is, e := gang.May(x.b, x.plan); is != x.want || e != api.OK {
			t.Errorf("May %d: %v, %d", i, is, e)
		}
	}
	for _, plan := range noPlans() {
		if is, e := gang.May(book(), plan); is || e != api.OK {
			t.Errorf("May %v: %v, %d", plan[:min(8, len(plan))], is, e)
		}
	}
}

// TestErrGangAsk has wrong questions, and works that are not a plan (P4.1 to P4.4).
func TestErrGangAsk(t *testing.T) {
	hold := func(b api.GangBook, plan []api.GangWork, q question, names ...string) {
		all := ask(b, plan, q)
		for _, name := range names {
			if !isNothingBut(all[name], api.ErrGangAsk) {
				t.Errorf("%s of %+v: %+v", name, q, all[name])
			}
		}
	}
	for _, b := range []api.GangBook{book(), book(far()), book(nights(1)), full(6, 1, 1)} {
		for _, n := range []int{-1, math.MinInt, math.MaxInt} {
			hold(b, nil, question{gang: n}, "Can")
			hold(b, works(0, 0, 0), question{mile: n}, "Can", "Done")
			hold(b, works(0, 0, 0), question{night: n}, "Closed")
		}
		hold(b, nil, question{gang: len(b.Gangs)}, "Can")
		hold(b, nil, question{mile: len(b.Miles)}, "Can", "Done")
		hold(b, nil, question{night: b.Nights}, "Closed")
	}
	for _, plan := range noPlans() {
		hold(book(), plan, question{}, "Closed", "Done", "Mended", "Open")
		hold(book(), plan, question{mile: -1, night: 4}, "Can", "Closed", "Done", "Mended", "Open")
	}
}

// TestCan has gangs, miles and nights of the mail (P4.1).
func TestCan(t *testing.T) {
	for i, x := range []struct {
		b          api.GangBook
		gang, mile int
		want       []int
	}{
		{book(), 0, 0, []int{0, 1, 2, 3}}, {book(), 1, 1, []int{1, 2, 3}}, {book(), 1, 0, nil}, {book(nights(2)), 0, 0, []int{0, 1}}, {book(nights(1)), 0, 1, nil}, {book(nights(1)), 1, 2, []int{0}},
		{book(far()), 1, 2, nil}, {book(mails(0, 15)), 0, 0, nil}, {book(mails(0, 8)), 0, 0, []int{0, 1, 2}}, {book(mails(0, 8), nights(3)), 0, 0, []int{0, 1, 2}}, {book(mails(0, 6)), 0, 0, []int{0, 3}},
		{book(goes(0, 0, 2)), 0, 2, []int{0, 2, 3}}, {full(1, 1), 0, 3, []int{0, 1, 2, 3}},
	} {
		l, e := gang.Can(x.b, x.gang, x.mile)
		if !slices.Equal(l, x.want) || e != api.OK {
			t.Errorf("Can %d: %v, %d; want %v", i, l, e, x.want)
		}
	}
}

// TestClosed has nights with works, and without (P4.2).
func TestClosed(t *testing.T) {
	plan := works(0, 0, 3, 0, 1, 0, 1, 1, 2, 3, 0, 2, 3, 1, 0)
	for night, want := range [][]int{{0, 3}, {2}, nil, {0, 2}} {
		l, e := gang.Closed(full(1, 1, 1), plan, night)
		checkList(t, "Closed", l, e, want...)
		l, e = gang.Closed(full(1, 1, 1), nil, night)
		checkList(t, "Closed by nothing", l, e)
	}
}

// TestDone has gangs that work between bounds, together and alone (P4.3, P4.4).
func TestDone(t *testing.T) {
	for i, x := range []struct {
		b      api.GangBook
		plan   []api.GangWork
		done   []api.Span
		mended []int
		open   int
		e      api.Errno
	}{
		{book(), nil, []api.Span{just(0), just(0), just(0)}, nil, 0, api.OK},
		{book(), works(1, 0, 1, 3, 1, 1), []api.Span{just(0), to(3, 4), just(0)}, []int{1}, 0, api.OK},
		{book(), works(1, 0, 1, 2, 0, 1, 3, 0, 1), []api.Span{just(0), to(3, 6), just(0)}, []int{1}, 0, api.OK},
		{book(), works(1, 0, 1), []api.Span{just(0), to(1, 2), just(0)}, nil, 0, api.OK},
		{book(needs(1, just(1))), works(1, 0, 1), []api.Span{just(0), to(1, 2), just(0)}, []int{1}, 0, api.OK},
		// A mile is mended surely only if it is with the least that is done, and the most that it needs.
		{book(), works(0, 0, 0, 1, 0, 0), []api.Span{to(2, 4), just(0), just(0)}, nil, 0, api.OK},
		{book(needs(0, just(3))), works(0, 0, 0, 1, 0, 0), []api.Span{to(2, 4), just(0), just(0)}, nil, 0, api.OK},
		{book(needs(0, just(2))), works(0, 0, 0, 1, 0, 0), []api.Span{to(2, 4), just(0), just(0)}, []int{0}, 1, api.OK},
		{book(), works(0, 0, 0, 1, 0, 0, 2, 0, 0), []api.Span{to(3, 6), just(0), just(0)}, []int{0}, 1, api.OK},
		{book(), works(0, 0, 0, 0, 1, 2, 1, 0, 0, 2, 0, 0), []api.Span{to(3, 6), just(0), just(2)}, []int{0, 2}, 1, api.OK},
		{book(), works(0, 0, 0, 0, 1, 2, 1, 0, 0, 2, 0, 0, 3, 1, 1), []api.Span{to(3, 6), just(2), just(2)}, []int{0, 1, 2}, 0, api.ErrNone},
		{lone(just(6), to(1, 3), 0, 4), works(0, 0, 0, 1, 0, 0, 2, 0, 0, 3, 0, 0), []api.Span{to(4, 12)}, nil, 0, api.OK},
		{lone(just(6), to(2, 3), 0, 4), works(0, 0, 0, 1, 0, 0, 3, 0, 0), []api.Span{to(6, 9)}, []int{0}, 0, api.ErrNone},
	} {
		for n, want := range x.done {
			if s, e := gang.Done(x.b, x.plan, n); s != want || e != api.OK {
				t.Errorf("Done %d at %d: %v, %d; want %v", i, n, s, e, want)
			}
		}
		l, e := gang.Mended(x.b, x.plan)
		checkList(t, "Mended", l, e, x.mended...)
		n, e := gang.Open(x.b, x.plan)
		checkNumber(t, "Open", n, e, x.open, x.e)
	}
}

// crowded is a book of two miles between which lies another one, a gang that works 2, and one that works 1.
func crowded() api.GangBook {
	return book(miles(mile(just(2), 0), mile(just(1), 0), mile(just(4), 0)), gangs(reaches(0, 2, just(2)), reaches(0, 2, just(1))))
}

// TestPlan has books with a plan for all miles (P4.5).
func TestPlan(t *testing.T) {
	one := miles(mile(just(2), 0))
	for _, x := range []struct {
		b    api.GangBook
		want []api.GangWork
	}{
		{lone(just(1), just(1), 0, 4), works(0, 0, 0)}, {lone(just(1), just(1), 7, 4), works(3, 0, 0)}, {lone(just(6), to(2, 3), 1, 4), works(1, 0, 0, 2, 0, 0, 3, 0, 0)},
		{lone(to(1, 3), to(1, 3), 0, 3), works(0, 0, 0, 1, 0, 0, 2, 0, 0)}, {book(does(0, just(3)), mails(1, 0)), works(0, 0, 0, 0, 1, 2, 1, 0, 1)},
		// The last night comes before the fewest works: the gang 0 would do all with four, by the night 3.
		{crowded(), works(0, 0, 1, 1, 0, 2, 1, 1, 0, 2, 0, 2, 2, 1, 0)},
		// The fewest works come before the first ones.
		{full(3, 1, 3), works(0, 1, 0, 1, 1, 1, 2, 1, 2, 3, 1, 3)},
		{book(one, gangs(reaches(0, 0, just(1)), reaches(0, 0, just(2)))), works(0, 1, 0)},
		{book(miles(mile(just(2), 0), mile(just(2), 0)), gangs(reaches(0, 0, just(1)), reaches(0, 1, just(2)))), works(0, 1, 0, 1, 1, 1)},
		// Of as many works the first ones: by their nights, then their gangs, then their miles.
		{book(one, gangs(reaches(0, 0, just(2)), reaches(0, 0, just(2)))), works(0, 0, 0)},
		{book(miles(mile(just(2), 0), mile(just(1), 0)), gangs(reaches(0, 1, just(2)))), works(0, 0, 0, 1, 0, 1)},
		{book(miles(mile(just(2), 0), mile(just(1), 0)), gangs(reaches(0, 1, just(2)), reaches(0, 1, just(3)))), works(0, 0, 0, 1, 0, 1)},
		{book(miles(mile(just(1), 0), mile(just(2), 0), mile(just(1), 0)), gangs(reaches(0, 2, just(1)), reaches(0, 2, just(1)))), works(0, 0, 0, 0, 1, 2, 1, 0, 1, 2, 0, 1)},
		{full(2, 2, 2), works(0, 0, 0, 0, 1, 2, 1, 0, 1, 1, 1, 3)},
		{full(1, 1, 1), works(0, 0, 0, 0, 1, 2, 1, 0, 1, 1, 1, 3)},
		{book(miles(mile(just(1), 0), mile(just(1), 2), mile(just(1), 0)), gangs(reaches(0, 2, just(1)), reaches(0, 1, just(1)))), works(0, 0, 1, 1, 0, 2, 1, 1, 0)},
	} {
		plan, e := gang.Plan(x.b)
		checkPlan(t, "Plan", plan, e, x.want)
	}
}

// TestNoPlan has books without a plan for all miles: the most that can be mended, and the first that cannot (P4.5 to P4.7).
func TestNoPlan(t *testing.T) {
	for i, x := range []struct {
		b     api.GangBook
		most  []int
		first int
		e     api.Errno
	}{
		{book(nights(3)), []int{0, 2}, 0, api.ErrNone}, {book(nights(2)), []int{1, 2}, 0, api.OK}, {book(nights(1)), []int{2}, 0, api.OK},
		{book(far()), []int{0, 1}, 2, api.OK}, {book(far(), mails(0, 15)), []int{1}, 0, api.OK}, {book(far(), mails(1, 15)), []int{0}, 1, api.OK},
		{lone(just(5), just(1), 0, 4), nil, 0, api.OK}, {lone(just(6), to(1, 3), 0, 4), nil, 0, api.OK}, {lone(just(1), just(3), 15, 4), nil, 0, api.OK}, {lone(just(1), just(3), 1, 1), nil, 0, api.OK},
		{lone(to(3, 4), just(1), 0, 3), nil, 0, api.OK}, {full(5, 1, 1), nil, 0, api.OK},
		// Two gangs do not work at one mile on one night.
		{book(miles(mile(just(4), 0)), gangs(reaches(0, 0, just(1)), reaches(0, 0, just(3))), nights(1)), nil, 0, api.OK},
		// The most come before the first.
		{book(miles(mile(just(3), 0), mile(just(1), 0), mile(just(1), 0), mile(just(1), 0)), gangs(reaches(0, 3, just(1)))), []int{1, 2, 3}, 0, api.ErrNone},
		{book(miles(mile(just(1), 0), mile(just(1), 0), mile(just(1), 0)), gangs(reaches(0, 2, just(1)), reaches(0, 2, just(1))), nights(1)), []int{0, 2}, 0, api.ErrNone},
		// Of as many the first ones.
		{full(4, 1), []int{0}, 0, api.ErrNone}, {full(2, 1), []int{0, 1}, 0, api.ErrNone}, {full(4, 1, 1), []int{0, 2}, 0, api.ErrNone},
		{book(miles(mile(just(3), 0), mile(just(1), 0)), gangs(reaches(0, 1, just(3))), nights(1)), []int{0}, 0, api.ErrNone},
	} {
		all := ask(x.b, nil, question{})
		if !isNothingBut(all["Plan"], api.ErrNone) {
			t.Errorf("Plan %d: %+v", i, all["Plan"])
		}
		if a := all["Most"]; !slices.Equal(a.list, x.most) || a.e != api.OK {
			t.Errorf("Most %d: %v, %d; want %v", i, a.list, a.e, x.most)
		}
		if a := all["First"]; a.n != x.first || a.e != x.e {
			t.Errorf("First %d: %d, %d; want %d, %d", i, a.n, a.e, x.first, x.e)
		}
	}
}

func cloneBook(b api.GangBook) api.GangBook {
	b.Miles, b.Gangs = slices.Clone(b.Miles), slices.Clone(b.Gangs)
	return b
}

// TestArguments asks with lists behind whose ends the caller keeps something (P4.8).
func TestArguments(t *testing.T) {
	all, plan := full(2, 2, 1, 3), works(0, 0, 0, 0, 1, 2, 1, 0, 1, 1, 1, 3, 3, 0, 0, 3, 1, 2)
	all.Miles = append(all.Miles, mile(just(1), 0))
	for count := range len(plan) + 1 {
		kept, keptPlan := cloneBook(all), slices.Clone(plan)
		b := kept
		b.Miles, b.Gangs = kept.Miles[:4], kept.Gangs[:2]
		for n := range 4 {
			for name, a := range ask(b, keptPlan[:count], question{n % 2, n, n}) {
				if a.e != api.OK && a.e != api.ErrNone {
					t.Errorf("%s with %d works: %+v", name, count, a)
				}
			}
		}
		if !reflect.DeepEqual(kept, all) || !slices.Equal(keptPlan, plan) {
			t.Errorf("with %d works: %+v, %v", count, kept, keptPlan)
		}
	}
}

// TestResults writes into results, and behind their ends, and into arguments afterwards: neither changes another result (P4.8, P2).
func TestResults(t *testing.T) {
	b, plan := book(), works(0, 0, 0, 0, 1, 2, 1, 0, 0, 2, 0, 0, 3, 1, 1)
	before := ask(b, plan, question{0, 1, 0})
	for _, a := range ask(b, plan, question{0, 1, 0}) {
		clear(a.list[:cap(a.list)])
		clear(a.plan[:cap(a.plan)])
		_ = append(a.list, 9)
		_ = append(a.plan, work(9, 9, 9))
	}
	if again := ask(b, plan, question{0, 1, 0}); !reflect.DeepEqual(before, again) {
		t.Errorf("once more: %+v; first %+v", again, before)
	}
	want := ask(book(), works(0, 0, 0, 0, 1, 2, 1, 0, 0, 2, 0, 0, 3, 1, 1), question{0, 1, 0})
	clear(plan)
	clear(b.Miles)
	clear(b.Gangs)
	ask(full(1, 3, 3), nil, question{})
	if !reflect.DeepEqual(before, want) {
		t.Errorf("behind another book: %+v; first %+v", before, want)
	}
}

// TestNilAndEmpty has nil lists and empty ones (R3).
func TestNilAndEmpty(t *testing.T) {
	if one, two := ask(book(), nil, question{}), ask(book(), []api.GangWork{}, question{}); !reflect.DeepEqual(one, two) {
		t.Errorf("nil %+v; empty %+v", one, two)
	}
	for _, b := range []api.GangBook{book(miles()), book(gangs()), book(miles([]api.GangMile{}...)), book(gangs([]api.GangGang{}...))} {
		if e := gang.Check(b); e != api.ErrGang {
			t.Errorf("%+v: %d", b, e)
		}
	}
}
