package way_test

import (
	"math"
	"reflect"
	"slices"
	"testing"

	"macadam/api"
	"macadam/gang"
	"macadam/way"
)

const free = api.WayFree

func to(low, high int) api.Span { return api.Span{Low: low, High: high} }

func just(n int) api.Span { return to(n, n) }

func road(a, b, mile int, takes api.Span) api.WayRoad {
	return api.WayRoad{A: a, B: b, Mile: mile, Takes: takes}
}

func coach(from, to, limit int) api.WayCoach {
	return api.WayCoach{From: from, To: to, Limit: limit}
}

func mile(needs api.Span, mails int) api.GangMile { return api.GangMile{Needs: needs, Mails: mails} }

func reaches(from, to int, works api.Span) api.GangGang {
	return api.GangGang{From: from, To: to, Works: works}
}

func work(night, gang, mile int) api.GangWork {
	return api.GangWork{Night: night, Gang: gang, Mile: mile}
}

// works is a night, a gang and a mile, and so on.
func works(l ...int) []api.GangWork {
	var all []api.GangWork
	for w := range slices.Chunk(l, 3) {
		all = append(all, work(w[0], w[1], w[2]))
	}
	return all
}

type change func(b *api.WayBook)

func changed(b api.WayBook, changes ...change) api.WayBook {
	b = cloneBook(b)
	for _, c := range changes {
		c(&b)
	}
	return b
}

// book is that of the chapter's examples, changed.
func book(changes ...change) api.WayBook {
	return changed(api.WayBook{
		Gang: api.GangBook{
			Miles:  []api.GangMile{mile(to(2, 3), 0), mile(to(1, 2), 1), mile(just(2), 2)},
			Gangs:  []api.GangGang{reaches(0, 1, to(1, 2)), reaches(1, 2, just(2))},
			Nights: 4,
		},
		Places:  3,
		Roads:   []api.WayRoad{road(0, 1, 0, to(10, 11)), road(1, 2, 1, to(12, 14)), road(0, 2, 2, just(30)), road(1, 2, free, to(20, 21))},
		Coaches: []api.WayCoach{coach(0, 2, 32), coach(0, 1, 40)},
	}, changes...)
}

func places(n int) change { return func(b *api.WayBook) { b.Places = n } }

func roads(l ...api.WayRoad) change { return func(b *api.WayBook) { b.Roads = l } }

func more(l ...api.WayRoad) change {
	return func(b *api.WayBook) { b.Roads = append(b.Roads, l...) }
}

func coaches(l ...api.WayCoach) change { return func(b *api.WayBook) { b.Coaches = l } }

func limit(n, minutes int) change { return func(b *api.WayBook) { b.Coaches[n].Limit = minutes } }

func ends(n, one, two int) change {
	return func(b *api.WayBook) { b.Roads[n].A, b.Roads[n].B = one, two }
}

func goes(n, from, to int) change {
	return func(b *api.WayBook) { b.Coaches[n].From, b.Coaches[n].To = from, to }
}

func isMile(n, mile int) change { return func(b *api.WayBook) { b.Roads[n].Mile = mile } }

func takes(n int, s api.Span) change { return func(b *api.WayBook) { b.Roads[n].Takes = s } }

func miles(l ...api.GangMile) change { return func(b *api.WayBook) { b.Gang.Miles = l } }

func gangs(l ...api.GangGang) change { return func(b *api.WayBook) { b.Gang.Gangs = l } }

func nights(n int) change { return func(b *api.WayBook) { b.Gang.Nights = n } }

func needs(n int, s api.Span) change { return func(b *api.WayBook) { b.Gang.Miles[n].Needs = s } }

func mails(n, set int) change { return func(b *api.WayBook) { b.Gang.Miles[n].Mails = set } }

// wide is what the chapter calls so.
func wide() change {
	return func(b *api.WayBook) { *b = changed(*b, limit(1, 50), more(road(0, 2, free, just(32)))) }
}

// net has four places, four miles that need 1 each, and two gangs that reach all and work 1; a coach that may take 200 goes from 0 to 3.
func net(l []api.WayRoad, changes ...change) api.WayBook {
	return changed(api.WayBook{
		Gang: api.GangBook{
			Miles:  slices.Repeat([]api.GangMile{mile(just(1), 0)}, 4),
			Gangs:  slices.Repeat([]api.GangGang{reaches(0, 3, just(1))}, 2),
			Nights: 4,
		},
		Places:  4,
		Roads:   l,
		Coaches: []api.WayCoach{coach(0, 3, 200)},
	}, changes...)
}

// twins are roads between 0 and 3 that take so long; the last of them is free, the others are the miles 0, 1 and so on.
func twins(l ...api.Span) []api.WayRoad {
	var all []api.WayRoad
	for n, s := range l {
		all = append(all, road(3*(n%2), 3-3*(n%2), n, s))
	}
	all[len(all)-1].Mile = free
	return all
}

// full has as much of everything as is allowed, at its upper limits.
func full(changes ...change) api.WayBook {
	return changed(api.WayBook{
		Gang: api.GangBook{
			Miles:  slices.Repeat([]api.GangMile{mile(to(4, 6), 0)}, api.GangMiles),
			Gangs:  slices.Repeat([]api.GangGang{reaches(0, 3, just(3))}, api.GangGangs),
			Nights: api.GangNights,
		},
		Places:  api.WayPlaces,
		Roads:   []api.WayRoad{road(0, 1, 0, to(57, 60)), road(1, 2, 1, to(57, 60)), road(2, 3, 2, to(57, 60)), road(0, 3, 3, to(57, 60)), road(0, 2, free, to(57, 60))},
		Coaches: []api.WayCoach{coach(0, 3, 200), coach(3, 1, 200), coach(2, 0, 200)},
	}, changes...)
}

// answer is what a function returns; what does not apply to it is zero.
type answer struct {
	is   bool
	n, m int
	span api.Span
	list []int
	plan []api.GangWork
	e    api.Errno
}

func isNothingBut(a answer, e api.Errno) bool {
	return !a.is && a.n == 0 && a.m == 0 && a.span == (api.Span{}) && len(a.list) == 0 && len(a.plan) == 0 && a.e == e
}

// question is what functions are asked besides the book.
type question struct {
	closed []int
	coach  int
	plan   []api.GangWork
}

// ask calls all functions but Check.
func ask(b api.WayBook, q question) map[string]answer {
	all := map[string]answer{}
	var a answer
	put := func(name string) { all[name], a = a, answer{} }
	a.span, a.e = way.Takes(b, q.closed, q.coach)
	put("Takes")
	a.list, a.e = way.Way(b, q.closed, q.coach)
	put("Way")
	a.list, a.e = way.Late(b, q.closed)
	put("Late")
	a.is, a.e = way.Safe(b, q.plan)
	put("Safe")
	a.n, a.m, a.e = way.Night(b, q.plan)
	put("Night")
	a.list, a.e = way.Most(b)
	put("Most")
	a.list, a.e = way.Never(b)
	put("Never")
	a.plan, a.e = way.Plan(b)
	put("Plan")
	return all
}

func checkList(t *testing.T, what string, got []int, e api.Errno, want []int, f api.Errno) {
	t.Helper()
	if !slices.Equal(got, want) || e != f {
		t.Errorf("%s: %v, %d; want %v, %d", what, got, e, want, f)
	}
}

func checkPlan(t *testing.T, what string, got []api.GangWork, e api.Errno, want []api.GangWork, f api.Errno) {
	t.Helper()
	if !slices.Equal(got, want) || e != f {
		t.Errorf("%s: %v, %d; want %v, %d", what, got, e, want, f)
	}
}

func checkTakes(t *testing.T, what string, b api.WayBook, closed []int, coach int, want api.Span, f api.Errno) {
	t.Helper()
	if s, e := way.Takes(b, closed, coach); s != want || e != f {
		t.Errorf("%s: Takes: %v, %d; want %v, %d", what, s, e, want, f)
	}
}

// TestExamples has the examples of the chapter.
func TestExamples(t *testing.T) {
	checkTakes(t, "none closed", book(), nil, 0, to(22, 25), api.OK)
	checkTakes(t, "1 closed", book(), []int{1}, 0, just(30), api.OK)
	checkTakes(t, "0 2 closed", book(), []int{0, 2}, 0, just(0), api.ErrNone)
	for _, x := range []struct {
		closed []int
		coach  int
		want   []int
	}{{nil, 0, []int{0, 1}}, {[]int{2}, 0, []int{0, 1}}, {[]int{0}, 1, []int{2, 1}}} {
		l, e := way.Way(book(), x.closed, x.coach)
		checkList(t, "Way", l, e, x.want, api.OK)
	}
	for _, x := range []struct {
		b            api.WayBook
		closed, want []int
	}{{book(), nil, nil}, {book(), []int{0}, []int{1}}, {book(), []int{0, 2}, []int{0, 1}}, {book(wide()), []int{0, 2}, nil}} {
		l, e := way.Late(x.b, x.closed)
		checkList(t, "Late", l, e, x.want, api.OK)
	}
	for i, plan := range [][]api.GangWork{works(0, 1, 2), works(0, 0, 0)} {
		if is, e := way.Safe(book(), plan); is != (i == 0) || e != api.OK {
			t.Errorf("Safe %v: %v, %d", plan, is, e)
		}
	}
	if n, m, e := way.Night(book(), works(0, 0, 0)); n != 0 || m != 1 || e != api.OK {
		t.Errorf("Night: %d, %d, %d", n, m, e)
	}
	for i, b := range []api.WayBook{book(), book(wide())} {
		l, e := way.Most(b)
		checkList(t, "Most", l, e, [][]int{{1}, {0, 2}}[i], api.OK)
		l, e = way.Never(b)
		checkList(t, "Never", l, e, [][]int{{0}, nil}[i], api.OK)
		plan, e := way.Plan(b)
		checkPlan(t, "Plan", plan, e, [][]api.GangWork{nil, works(0, 0, 0, 0, 1, 2, 1, 0, 0, 2, 0, 0, 3, 1, 1)}[i], []api.Errno{api.ErrNone, api.OK}[i])
	}
}

// TestExampleOfOverview has the ninth example of DOC.md.
func TestExampleOfOverview(t *testing.T) {
	for _, other := range []api.Span{just(31), just(30)} {
		b := net(twins(just(9), other), limit(0, 30))
		isLate := other.High > 30
		l, e := way.Never(b)
		checkList(t, "Never", l, e, map[bool][]int{true: {0}}[isLate], api.OK)
		plan, e := way.Plan(b)
		if isClosed := slices.ContainsFunc(plan, func(w api.GangWork) bool { return w.Mile == 0 }); isClosed == isLate || (e == api.OK) == isLate {
			t.Errorf("beside a road of %v: Plan: %v, %d", other, plan, e)
		}
	}
}

// TestCheckLimits has books at the ends of each limit (P9.1).
func TestCheckLimits(t *testing.T) {
	one := road(0, 1, free, just(1))
	for i, b := range []api.WayBook{
		book(), book(wide()), full(), net(twins(just(1))), net(twins(just(60), to(57, 60), to(1, 4), just(1))),
		book(places(2), roads(one), coaches(coach(0, 1, 0))), book(places(4)), full(places(4)), book(places(4), ends(0, 3, 0), goes(0, 3, 2)),
		book(roads(one)), book(roads(one, one, one, one, one)), book(roads(road(2, 0, 2, to(1, 4)), one, road(1, 0, 0, just(60)))), book(ends(0, 2, 0), ends(3, 2, 0)),
		book(isMile(0, free)), book(isMile(0, free), isMile(1, free), isMile(2, free)), book(isMile(0, 1), isMile(1, 0)), book(isMile(2, free), isMile(3, 2)),
		book(takes(0, just(1))), book(takes(0, just(60))), book(takes(0, to(57, 60))), book(takes(3, to(1, 4))), book(takes(3, to(59, 60))),
		book(limit(0, 0)), book(limit(1, 200)), book(coaches(coach(2, 1, 9))), book(coaches(coach(2, 1, 9), coach(2, 1, 9), coach(1, 2, 0))),
		book(nights(1)), book(mails(0, 15)),
	} {
		if e := way.Check(b); e != api.OK {
			t.Errorf("the valid book %d: %d", i, e)
		}
	}
}

// wrongBooks are books beyond the ends of each limit.
func wrongBooks() []api.WayBook {
	one := road(0, 1, free, just(1))
	changes := []change{
		func(b *api.WayBook) { *b = api.WayBook{} },
		func(b *api.WayBook) { b.Gang = api.GangBook{} },
		nights(5), nights(0), mails(0, 16), miles(), gangs(), needs(0, to(1, 4)), gangs(reaches(0, 3, just(1))),
		// A book of two miles: its gangs reach them alone, but a road is the mile 2.
		func(b *api.WayBook) { b.Gang.Miles, b.Gang.Gangs = b.Gang.Miles[:2], b.Gang.Gangs[:1] },
		places(0), places(1), places(2), places(5), places(-1), places(math.MinInt), places(math.MaxInt),
		roads(), coaches(), roads(slices.Repeat([]api.WayRoad{one}, 6)...), coaches(slices.Repeat([]api.WayCoach{coach(0, 1, 9)}, 4)...),
		ends(0, 1, 1), ends(3, 0, 0), goes(0, 2, 2), goes(1, 0, 0),
		isMile(0, 1), isMile(3, 2), isMile(3, 0), isMile(2, 1), isMile(3, 3), isMile(0, -2), isMile(0, math.MinInt), isMile(0, math.MaxInt),
		limit(0, 201), limit(1, 201), limit(0, -1), limit(1, math.MinInt), limit(1, math.MaxInt),
	}
	for _, n := range []int{-1, 3, 4, math.MinInt, math.MaxInt} {
		changes = append(changes, ends(0, n, 1), ends(0, 1, n), ends(3, n, 0), goes(0, n, 1), goes(0, 1, n), goes(1, n, n))
	}
	for _, s := range []api.Span{just(0), just(-1), just(61), to(0, 1), to(60, 61), to(1, 5), to(56, 60), to(1, 60), to(2, 1), to(60, 1), to(1, 0), to(math.MinInt, math.MaxInt), to(math.MaxInt, math.MinInt), to(1, math.MaxInt), to(math.MinInt, 1), just(math.MinInt), just(math.MaxInt)} {
		changes = append(changes, takes(0, s), takes(3, s))
	}
	var l []api.WayBook
	for _, c := range changes {
		l = append(l, book(c))
	}
	return l
}

// TestErrWay has wrong books: all functions return ErrWay first, and nothing else (P9.1, P1).
func TestErrWay(t *testing.T) {
	for i, b := range wrongBooks() {
		if e := way.Check(b); e != api.ErrWay {
			t.Errorf("the wrong book %d: Check: %d", i, e)
		}
		for _, n := range []int{0, -1, math.MinInt, math.MaxInt} {
			for _, q := range []question{{}, {closed: []int{0}, plan: works(0, 0, 0)}, {closed: []int{n}, coach: n, plan: works(n, n, n)}, {closed: []int{1, 0}, coach: n}} {
				for name, a := range ask(b, q) {
					if !isNothingBut(a, api.ErrWay) {
						t.Errorf("the wrong book %d: %s of %+v: %+v", i, name, q, a)
					}
				}
			}
		}
	}
}

// TestErrWayAsk has wrong questions: lists that are not of miles, coaches that there are not, and works that are not a plan (P9.1 to P9.3).
func TestErrWayAsk(t *testing.T) {
	hold := func(b api.WayBook, q question, names ...string) {
		t.Helper()
		all := ask(b, q)
		for _, name := range names {
			if !isNothingBut(all[name], api.ErrWayAsk) {
				t.Errorf("%s of %+v: %+v", name, q, all[name])
			}
		}
	}
	for _, b := range []api.WayBook{book(), book(wide()), book(limit(0, 0)), full(), net(twins(just(1)))} {
		count := len(b.Gang.Miles)
		for _, n := range []int{-1, count, math.MinInt, math.MaxInt, 64, -64} {
			for _, l := range [][]int{{n}, {0, n}, {n, 0}, {n, n}, {0, 1, n}, {n, 1, 2}} {
				hold(b, question{closed: l}, "Takes", "Way", "Late")
			}
			hold(b, question{coach: n}, "Takes", "Way")
			hold(b, question{closed: []int{0, 2}, coach: n}, "Takes", "Way")
			hold(b, question{plan: works(0, 0, n)}, "Safe", "Night")
			hold(b, question{plan: works(0, 0, 0, n, n, n)}, "Safe", "Night")
		}
		for _, n := range []int{-1, 4, math.MinInt, math.MaxInt} {
			hold(b, question{plan: works(n, 0, 0)}, "Safe", "Night")
			hold(b, question{plan: works(0, n, 0)}, "Safe", "Night")
		}
		for _, l := range [][]int{{1, 0}, {0, 0}, {2, 2}, {0, 2, 1}, {0, 1, 1}, {2, 1, 0}, slices.Repeat([]int{0}, 1000)} {
			hold(b, question{closed: l}, "Takes", "Way", "Late")
			hold(b, question{closed: l, coach: 1}, "Takes", "Way", "Late")
		}
		hold(b, question{coach: len(b.Coaches)}, "Takes", "Way")
	}
	for _, plan := range [][]api.GangWork{
		works(0, 0, 1), works(0, 0, 2), works(1, 1, 2), works(2, 1, 0), works(4, 0, 0), works(0, 2, 0), works(0, 0, 3),
		works(0, 0, 0, 0, 0, 0), works(1, 0, 0, 0, 0, 0), works(0, 1, 2, 0, 0, 0), works(1, 0, 0, 1, 1, 1), works(2, 0, 1, 2, 1, 1), works(2, 0, 1, 2, 1, 2),
		slices.Repeat(works(0, 0, 0), 1000),
	} {
		hold(book(), question{plan: plan}, "Safe", "Night")
		hold(book(wide()), question{plan: plan}, "Safe", "Night")
	}
}

// TestWay has ways that are the quickest, the shortest or the first ones (P9.1, P9.9).
func TestWay(t *testing.T) {
	ring := []api.WayRoad{road(0, 1, 0, just(5)), road(1, 3, 1, just(5)), road(2, 3, 2, just(5)), road(2, 0, 3, just(5))}
	line := []api.WayRoad{road(1, 0, 0, to(1, 4)), road(1, 2, 1, to(1, 2)), road(3, 2, 2, just(9))}
	for i, x := range []struct {
		b      api.WayBook
		closed []int
		coach  int
		want   []int
		takes  api.Span
	}{
		{book(), nil, 1, []int{0}, to(10, 11)}, {book(), []int{0}, 0, []int{2}, just(30)}, {book(), []int{1, 2}, 0, []int{0, 3}, to(30, 32)}, {book(), []int{0, 1}, 1, []int{2, 3}, to(50, 51)}, {book(), []int{0}, 1, []int{2, 1}, to(42, 44)}, {book(), []int{1}, 1, []int{0}, to(10, 11)},
		{book(wide()), []int{0, 2}, 0, []int{4}, just(32)}, {book(wide()), []int{0, 1, 2}, 1, []int{4, 3}, to(52, 53)}, {book(limit(0, 0)), nil, 0, []int{0, 1}, to(22, 25)},
		// What it takes at most counts, not what at least.
		{net(twins(to(5, 8), to(6, 7))), nil, 0, []int{1}, to(6, 7)}, {net(twins(to(5, 7), to(6, 8))), nil, 0, []int{0}, to(5, 7)}, {net(twins(to(57, 59), just(58))), nil, 0, []int{1}, just(58)},
		// Of as much at most the fewest roads, and then the first list, whatever it takes at least.
		{net(twins(to(4, 7), just(7))), nil, 0, []int{0}, to(4, 7)}, {net(twins(just(7), to(4, 7))), nil, 0, []int{0}, just(7)}, {net(twins(just(8), just(7), to(5, 7), to(4, 7), just(7))), nil, 0, []int{1}, just(7)}, {net(twins(just(8), just(7), to(5, 7), to(4, 7), just(7))), []int{1}, 0, []int{2}, to(5, 7)},
		{net(ring, more(road(0, 3, free, just(10)))), nil, 0, []int{4}, just(10)}, {net(ring, more(road(0, 3, free, just(11)))), nil, 0, []int{0, 1}, just(10)}, {net(ring), nil, 0, []int{0, 1}, just(10)}, {net(ring), []int{1}, 0, []int{3, 2}, just(10)}, {net(ring, goes(0, 3, 0)), nil, 0, []int{1, 0}, just(10)}, {net(ring, goes(0, 3, 0), ends(3, 0, 3), ends(2, 2, 0)), nil, 0, []int{3}, just(5)},
		{net(ring, goes(0, 1, 2)), nil, 0, []int{0, 3}, just(10)}, {net(ring, goes(0, 2, 1)), nil, 0, []int{2, 1}, just(10)}, {net(ring, takes(1, just(4))), nil, 0, []int{0, 1}, just(9)}, {net(ring, takes(2, just(4))), nil, 0, []int{3, 2}, just(9)}, {net(ring, takes(2, to(4, 5)), takes(3, to(2, 5))), nil, 0, []int{0, 1}, just(10)},
		// More roads that take less.
		{net(line), nil, 0, []int{0, 1, 2}, to(11, 15)}, {net(line, goes(0, 3, 0)), nil, 0, []int{2, 1, 0}, to(11, 15)}, {net(line, more(road(0, 3, 3, just(15)))), nil, 0, []int{3}, just(15)}, {net(line, more(road(0, 3, 3, just(16)))), nil, 0, []int{0, 1, 2}, to(11, 15)}, {net(line, more(road(0, 3, 3, just(16)))), []int{1}, 0, []int{3}, just(16)},
		{net(line, more(road(0, 2, free, just(6)))), nil, 0, []int{3, 2}, just(15)}, {net(line, more(road(1, 2, free, to(1, 2)))), nil, 0, []int{0, 1, 2}, to(11, 15)}, {net(line, more(road(2, 1, free, just(2)))), []int{1}, 0, []int{0, 3, 2}, to(12, 15)}, {net(line, more(road(2, 1, free, just(1)))), nil, 0, []int{0, 3, 2}, to(11, 14)},
		// Miles without a road are closed for nobody.
		{net(line), []int{3}, 0, []int{0, 1, 2}, to(11, 15)}, {net(twins(just(9))), []int{0, 1, 2, 3}, 0, []int{0}, just(9)},
		{full(), nil, 0, []int{3}, to(57, 60)}, {full(), nil, 1, []int{2, 1}, to(114, 120)}, {full(), []int{0}, 1, []int{2, 1}, to(114, 120)}, {full(), []int{2}, 1, []int{3, 0}, to(114, 120)}, {full(), []int{1, 3}, 1, []int{2, 4, 0}, to(171, 180)}, {full(), []int{0, 2}, 1, []int{3, 4, 1}, to(171, 180)},
	} {
		l, e := way.Way(x.b, x.closed, x.coach)
		checkList(t, "Way", l, e, x.want, api.OK)
		checkTakes(t, "Way", x.b, x.closed, x.coach, x.takes, api.OK)
		if t.Failed() {
			t.Fatalf("Way %d", i)
		}
	}
}

// TestNoWay has coaches that do not come to their places (P9.1, P9.2).
func TestNoWay(t *testing.T) {
	apart := net([]api.WayRoad{road(0, 1, free, just(1)), road(2, 3, 0, just(1)), road(3, 2, free, just(2))})
	for i, x := range []struct {
		b      api.WayBook
		closed []int
	}{
		{book(), []int{0, 2}}, {book(), []int{0, 1, 2}}, {apart, nil}, {apart, []int{0}}, {net(twins(just(1), just(2)), isMile(1, 3)), []int{0, 3}}, {net([]api.WayRoad{road(0, 3, 0, just(1))}), []int{0}},
		{net([]api.WayRoad{road(0, 1, free, just(1)), road(1, 2, free, just(1)), road(2, 0, free, just(1))}), nil}, {full(), []int{2, 3}},
	} {
		for name, a := range ask(x.b, question{closed: x.closed}) {
			isAsked := name == "Takes" || name == "Way"
			if isAsked && !isNothingBut(a, api.ErrNone) || name == "Late" && !slices.Contains(a.list, 0) {
				t.Errorf("%s %d: %+v", name, i, a)
			}
		}
	}
}

// TestLate has coaches that are just in time, or just not (P9.2).
func TestLate(t *testing.T) {
	three := coaches(coach(0, 2, 25), coach(2, 1, 14), coach(1, 0, 11))
	for i, x := range []struct {
		b            api.WayBook
		closed, want []int
	}{
		{book(limit(0, 25)), nil, nil}, {book(limit(0, 24)), nil, []int{0}}, {book(limit(0, 22)), nil, []int{0}}, {book(limit(1, 44)), []int{0}, nil}, {book(limit(1, 43)), []int{0}, []int{1}}, {book(limit(0, 0), limit(1, 0)), nil, []int{0, 1}}, {book(limit(0, 200), limit(1, 200)), []int{0, 2}, []int{0, 1}},
		{book(), []int{1}, nil}, {book(), []int{2}, nil}, {book(), []int{1, 2}, nil}, {book(limit(0, 31)), []int{1, 2}, []int{0}}, {book(), []int{0, 1}, []int{1}}, {book(wide()), []int{0, 1, 2}, []int{1}}, {book(wide(), limit(0, 31)), []int{0, 2}, []int{0}},
		{book(three), nil, nil}, {book(three), []int{0}, []int{0, 2}}, {book(three), []int{1}, []int{0, 1}}, {book(three), []int{2}, nil}, {book(three), []int{0, 2}, []int{0, 2}}, {book(three), []int{0, 1, 2}, []int{0, 1, 2}},
		{full(), nil, nil}, {full(), []int{1, 3}, nil}, {full(limit(1, 179)), []int{1, 3}, []int{1}}, {full(), []int{0, 3}, nil}, {full(), []int{2, 3}, []int{0, 1}},
	} {
		l, e := way.Late(x.b, x.closed)
		checkList(t, "Late", l, e, x.want, api.OK)
		if t.Failed() {
			t.Fatalf("Late %d", i)
		}
	}
}

// TestNight has plans that are safe, and plans that are not (P9.3).
func TestNight(t *testing.T) {
	all := works(0, 0, 0, 0, 1, 2, 1, 0, 0, 2, 0, 0, 3, 1, 1)
	for i, x := range []struct {
		b            api.WayBook
		plan         []api.GangWork
		night, coach int
		e            api.Errno
	}{
		{book(), nil, 0, 0, api.ErrNone}, {book(), works(0, 1, 2), 0, 0, api.ErrNone}, {book(), works(0, 1, 2, 1, 1, 1, 2, 0, 1, 3, 1, 2), 0, 0, api.ErrNone}, {book(), works(3, 0, 0), 3, 1, api.OK}, {book(), works(0, 1, 2, 2, 0, 0, 3, 0, 0), 2, 1, api.OK}, {book(), works(1, 1, 1, 2, 0, 0, 2, 1, 2), 2, 0, api.OK},
		// Each of two miles that are closed on one night can be closed alone, or on different nights.
		{book(limit(1, 44)), works(0, 0, 0, 0, 1, 2), 0, 0, api.OK}, {book(limit(1, 44)), works(0, 0, 0), 0, 0, api.ErrNone}, {book(limit(1, 44)), works(0, 1, 2, 1, 0, 0), 0, 0, api.ErrNone}, {book(limit(1, 44)), works(0, 1, 2, 2, 0, 0, 2, 1, 2), 2, 0, api.OK}, {book(wide(), limit(1, 45)), works(0, 0, 0, 0, 1, 2), 0, 1, api.OK},
		{book(wide()), all, 0, 0, api.ErrNone}, {book(wide()), all[:4], 0, 0, api.ErrNone}, {book(limit(1, 50)), all, 0, 0, api.OK}, {book(limit(1, 50)), all[2:], 0, 0, api.ErrNone},
		// Nights without works count as well.
		{book(limit(0, 24)), nil, 0, 0, api.OK}, {book(limit(0, 24)), works(1, 1, 1), 0, 0, api.OK}, {book(limit(1, 10)), nil, 0, 1, api.OK}, {book(limit(0, 25)), works(1, 1, 1), 1, 0, api.OK}, {book(limit(1, 10)), works(1, 0, 0), 0, 1, api.OK},
		{book(nights(1)), works(0, 0, 0), 0, 1, api.OK}, {full(), works(0, 0, 3, 1, 0, 2, 2, 0, 2, 2, 1, 0, 3, 1, 1), 0, 0, api.ErrNone}, {full(limit(2, 59)), nil, 0, 2, api.OK}, {full(limit(1, 179)), works(2, 0, 0, 3, 0, 1, 3, 1, 3), 3, 1, api.OK},
	} {
		n, m, e := way.Night(x.b, x.plan)
		if n != x.night || m != x.coach || e != x.e {
			t.Errorf("Night %d: %d, %d, %d; want %d, %d, %d", i, n, m, e, x.night, x.coach, x.e)
		}
		if is, e := way.Safe(x.b, x.plan); is != (x.e == api.ErrNone) || e != api.OK {
			t.Errorf("Safe %d: %v, %d", i, is, e)
		}
	}
}

// TestMost has miles that can be closed at once, alone, or never (P9.4, P9.5, P9.12).
func TestMost(t *testing.T) {
	// Two roads are quick enough, each if the other one is closed.
	two := net(twins(just(9), just(9), just(20)), isMile(2, 2), limit(0, 9))
	for i, x := range []struct {
		b     api.WayBook
		most  []int
		e     api.Errno
		never []int
	}{
		{book(), []int{1}, api.OK, []int{0}}, {book(wide()), []int{0, 2}, api.OK, nil}, {book(wide(), limit(1, 45)), []int{0}, api.OK, nil}, {book(limit(0, 24)), nil, api.ErrNone, []int{0, 1, 2}}, {book(limit(0, 25)), []int{2}, api.OK, []int{0, 1}}, {book(limit(1, 10)), nil, api.ErrNone, []int{0, 1, 2}}, {book(limit(0, 29), limit(1, 50)), []int{2}, api.OK, []int{0, 1}},
		// Miles that follow each other are not closed at once, but may be alone.
		{net(twins(just(9))), []int{0, 2}, api.OK, nil}, {net(twins(just(9)), miles(mile(just(1), 0)), gangs(reaches(0, 0, just(1)))), []int{0}, api.OK, nil}, {net(twins(just(9)), miles(mile(just(1), 0), mile(just(1), 0)), gangs(reaches(0, 0, just(1)))), []int{0}, api.OK, nil},
		// None at all.
		{net([]api.WayRoad{road(0, 1, 0, just(9)), road(1, 2, 1, just(9)), road(2, 3, 2, just(9))}, miles(slices.Repeat([]api.GangMile{mile(just(1), 0)}, 3)...), gangs(reaches(0, 2, just(1)))), nil, api.OK, []int{0, 1, 2}}, {net(twins(just(9)), limit(0, 8)), nil, api.ErrNone, []int{0, 1, 2, 3}},
		{two, []int{0, 2}, api.OK, nil}, {changed(two, isMile(2, free), isMile(1, 2)), []int{0, 3}, api.OK, nil}, {changed(two, isMile(0, 3), isMile(1, 1)), []int{0, 2}, api.OK, nil}, {changed(two, isMile(0, 0), isMile(1, 3), limit(0, 8)), nil, api.ErrNone, []int{0, 1, 2, 3}},
		// The mile 0 never, or not beside the mile 2 or 3.
		{net(twins(just(9), just(10)), limit(0, 9)), []int{1, 3}, api.OK, []int{0}}, {net(twins(just(9), just(9)), isMile(1, 2), limit(0, 9)), []int{0, 3}, api.OK, nil}, {net(twins(just(9), just(9)), isMile(1, 3), limit(0, 9)), []int{0, 2}, api.OK, nil},
		{net([]api.WayRoad{road(0, 1, 0, just(9)), road(0, 1, 2, just(9)), road(1, 3, free, just(9)), road(1, 3, 3, just(9))}, isMile(2, 1)), []int{0, 3}, api.OK, nil},
		{full(), []int{0, 2}, api.OK, nil}, {full(limit(1, 179)), []int{0, 3}, api.OK, nil}, {full(limit(1, 120), limit(0, 60)), []int{0}, api.OK, []int{3}}, {full(limit(1, 119)), nil, api.ErrNone, []int{0, 1, 2, 3}},
	} {
		l, e := way.Most(x.b)
		checkList(t, "Most", l, e, x.most, x.e)
		l, e = way.Never(x.b)
		checkList(t, "Never", l, e, x.never, api.OK)
		if t.Failed() {
			t.Fatalf("Most %d", i)
		}
	}
}

// TestPlan has books with a plan that is safe, and mends all (P9.6, P9.11).
func TestPlan(t *testing.T) {
	less := needs(0, just(2))
	long := works(0, 0, 0, 0, 1, 2, 1, 0, 0, 2, 0, 0, 3, 1, 1)
	for i, x := range []struct {
		b    api.WayBook
		want []api.GangWork
	}{
		{book(wide()), long}, {book(wide(), less), works(0, 0, 0, 0, 1, 2, 1, 0, 0, 2, 1, 1)}, {book(limit(1, 44), less), works(0, 0, 0, 1, 0, 0, 2, 1, 1, 3, 1, 2)}, {book(wide(), limit(1, 45), less), works(0, 0, 0, 1, 0, 0, 2, 1, 1, 3, 1, 2)},
		{book(wide(), needs(2, just(3)), less), works(0, 0, 0, 0, 1, 2, 1, 1, 1, 2, 0, 0, 2, 1, 2)},
		// One mile after another if two at once are not safe, else two a night.
		{net(twins(just(9), just(9)), isMile(1, 2), limit(0, 9)), works(0, 0, 0, 0, 1, 3, 1, 0, 1, 2, 0, 2)},
		{net(twins(just(9))), works(0, 0, 0, 0, 1, 2, 1, 0, 1, 1, 1, 3)}, {net(twins(just(9)), gangs(reaches(0, 3, just(1)))), works(0, 0, 0, 1, 0, 1, 2, 0, 2, 3, 0, 3)}, {net(twins(just(9)), mails(0, 1), mails(1, 2)), works(0, 0, 1, 0, 1, 3, 1, 0, 0, 1, 1, 2)},
		// The last night comes before the fewest works, and these before the first list.
		{net(twins(just(9)), miles(mile(just(2), 0)), gangs(reaches(0, 0, just(1)), reaches(0, 0, just(2)))), works(0, 1, 0)}, {net(twins(just(9)), miles(mile(just(3), 0), mile(just(2), 0)), gangs(reaches(0, 1, just(1)), reaches(0, 1, just(3))), nights(3)), works(0, 1, 0, 1, 1, 1)},
		{net(twins(just(9)), miles(mile(just(1), 0), mile(just(1), 0), mile(just(2), 0)), gangs(reaches(0, 2, just(1)), reaches(2, 2, just(1)))), works(0, 0, 0, 0, 1, 2, 1, 0, 1, 2, 0, 2)},
	} {
		plan, e := way.Plan(x.b)
		checkPlan(t, "Plan", plan, e, x.want, api.OK)
		if t.Failed() {
			t.Fatalf("Plan %d", i)
		}
	}
}

// TestNoPlan has books without such a plan, of which some have one in layer 4 (P9.6, P9.11).
func TestNoPlan(t *testing.T) {
	for i, x := range []struct {
		b    api.WayBook
		gang api.Errno
	}{
		{book(), api.OK}, {book(limit(0, 24)), api.OK}, {book(limit(1, 44)), api.OK}, {book(wide(), limit(1, 43)), api.OK}, {book(wide(), nights(3)), api.ErrNone}, {book(wide(), mails(2, 15)), api.ErrNone},
		{net(twins(just(9)), limit(0, 8)), api.OK}, {net(twins(just(9)), gangs(reaches(0, 2, just(1)))), api.ErrNone}, {net(twins(just(9), just(10)), limit(0, 9)), api.OK}, {net(twins(just(9), just(9)), isMile(1, 2), limit(0, 9), nights(2)), api.OK},
		{net(twins(just(9), just(9)), isMile(1, 2), limit(0, 9), mails(0, 5), mails(2, 5), nights(3)), api.OK},
	} {
		plan, e := way.Plan(x.b)
		checkPlan(t, "Plan", plan, e, nil, api.ErrNone)
		if _, e := gang.Plan(x.b.Gang); e != x.gang {
			t.Errorf("layer 4: Plan: %d; want %d", e, x.gang)
		}
		if t.Failed() {
			t.Fatalf("Plan %d", i)
		}
	}
}

func cloneBook(b api.WayBook) api.WayBook {
	b.Gang.Miles, b.Gang.Gangs = slices.Clone(b.Gang.Miles), slices.Clone(b.Gang.Gangs)
	b.Roads, b.Coaches = slices.Clone(b.Roads), slices.Clone(b.Coaches)
	return b
}

// TestArguments asks with lists behind whose ends the caller keeps something (P9.7).
func TestArguments(t *testing.T) {
	all, closed, plan := full(), []int{0, 1, 2}, works(0, 0, 0, 0, 1, 2, 1, 0, 1, 3, 1, 2)
	all.Gang.Gangs = slices.Repeat([]api.GangGang{reaches(0, 2, just(3))}, 2)
	for count := range len(closed) + 1 {
		kept, keptClosed, keptPlan := cloneBook(all), slices.Clone(closed), slices.Clone(plan)
		b := kept
		b.Gang.Miles, b.Gang.Gangs = b.Gang.Miles[:3], b.Gang.Gangs[:2]
		b.Roads, b.Coaches = b.Roads[:3], b.Coaches[:2]
		for n := range b.Coaches {
			for name, a := range ask(b, question{keptClosed[:count], n, keptPlan[:count+1]}) {
				if a.e != api.OK && a.e != api.ErrNone {
					t.Errorf("%s with %d miles closed: %+v", name, count, a)
				}
			}
		}
		if !reflect.DeepEqual(kept, all) || !slices.Equal(keptClosed, closed) || !slices.Equal(keptPlan, plan) {
			t.Errorf("with %d miles closed: %+v, %v, %v", count, kept, keptClosed, keptPlan)
		}
	}
}

// TestResults writes into results, and behind their ends, and into arguments afterwards: neither changes another result (P9.7, P2).
func TestResults(t *testing.T) {
	first := func() (api.WayBook, question) {
		return book(wide(), limit(1, 45), needs(0, just(2))), question{[]int{0, 2}, 1, works(0, 0, 0, 0, 1, 2)}
	}
	b, q := first()
	before := ask(b, q)
	for _, a := range ask(b, q) {
		clear(a.list[:cap(a.list)])
		clear(a.plan[:cap(a.plan)])
		_, _ = append(a.list, 9), append(a.plan, work(9, 9, 9))
	}
	if again := ask(b, q); !reflect.DeepEqual(before, again) {
		t.Errorf("once more: %+v; first %+v", again, before)
	}
	want := ask(first())
	clear(b.Gang.Miles)
	clear(b.Gang.Gangs)
	clear(b.Roads)
	clear(b.Coaches)
	clear(q.closed)
	clear(q.plan)
	ask(full(), question{closed: []int{1}, plan: works(0, 0, 3)})
	if !reflect.DeepEqual(before, want) {
		t.Errorf("behind another book: %+v; first %+v", before, want)
	}
}

// TestNilAndEmpty has nil lists and empty ones (R3).
func TestNilAndEmpty(t *testing.T) {
	for _, b := range []api.WayBook{book(), book(wide()), book(limit(0, 24))} {
		if one, two := ask(b, question{}), ask(b, question{closed: []int{}, plan: []api.GangWork{}}); !reflect.DeepEqual(one, two) {
			t.Errorf("nil %+v; empty %+v", one, two)
		}
	}
	for _, b := range []api.WayBook{book(roads()), book(roads([]api.WayRoad{}...)), book(coaches()), book(coaches([]api.WayCoach{}...))} {
		if e := way.Check(b); e != api.ErrWay {
			t.Errorf("%+v: %d", b, e)
		}
	}
}
