package way_test

import (
	"cmp"
	"math/rand"
	"slices"
	"testing"

	"macadam/api"
	"macadam/gang"
	"macadam/way"
)

// lists returns all lists of up to three numbers below count but the empty one: a way comes to each of four places once.
func lists(count int) [][]int {
	var all [][]int
	longest := [][]int{nil}
	for range 3 {
		var longer [][]int
		for _, l := range longest {
			for n := range count {
				longer = append(longer, append(slices.Clone(l), n))
			}
		}
		all, longest = append(all, longer...), longer
	}
	return all
}

// isWay tells by the definition whether a list is a way: each road begins where the one before it ended, and no place comes twice.
func isWay(b api.WayBook, closed []int, c api.WayCoach, list []int) bool {
	passed := []int{c.From}
	for _, n := range list {
		r, at := b.Roads[n], passed[len(passed)-1]
		if slices.Contains(closed, r.Mile) || at != r.A && at != r.B {
			return false
		}
		next := r.A + r.B - at
		if slices.Contains(passed, next) {
			return false
		}
		passed = append(passed, next)
	}
	return len(list) > 0 && passed[len(passed)-1] == c.To
}

func together(b api.WayBook, list []int) api.Span {
	var s api.Span
	for _, n := range list {
		s.Low += b.Roads[n].Takes.Low
		s.High += b.Roads[n].Takes.High
	}
	return s
}

// office has a book, and what was calculated before of its ways.
type office struct {
	api.WayBook
	lists [][]int
	known map[[2]int][]int
	lates map[int][]int
}

func open(b api.WayBook) *office {
	return &office{b, lists(len(b.Roads)), map[[2]int][]int{}, map[int][]int{}}
}

func setOf(closed []int) int {
	n := 0
	for _, mile := range closed {
		n += 1 << mile
	}
	return n
}

// best returns the coach's way: the best one of all lists that are ways, or nil.
func (o *office) best(closed []int, coach int) []int {
	key := [2]int{setOf(closed), coach}
	if l, is := o.known[key]; is {
		return l
	}
	var best []int
	for _, l := range o.lists {
		if isWay(o.WayBook, closed, o.Coaches[coach], l) && (best == nil || isBetter(o.WayBook, l, best)) {
			best = l
		}
	}
	o.known[key] = best
	return best
}

func isBetter(b api.WayBook, list, other []int) bool {
	return cmp.Or(together(b, list).High-together(b, other).High, len(list)-len(other), slices.Compare(list, other)) < 0
}

func (o *office) late(closed []int) []int {
	if l, is := o.lates[setOf(closed)]; is {
		return l
	}
	var all []int
	for n, c := range o.Coaches {
		if l := o.best(closed, n); l == nil || together(o.WayBook, l).High > c.Limit {
			all = append(all, n)
		}
	}
	o.lates[setOf(closed)] = all
	return all
}

// closedBy goes through the works of a plan.
func closedBy(plan []api.GangWork, night int) []int {
	var l []int
	for _, w := range plan {
		if w.Night == night {
			l = append(l, w.Mile)
		}
	}
	slices.Sort(l)
	return l
}

func (o *office) isSafe(plan []api.GangWork) bool {
	for night := range o.Gang.Nights {
		if len(o.late(closedBy(plan, night))) > 0 {
			return false
		}
	}
	return true
}

func mendsAll(b api.GangBook, plan []api.GangWork) bool {
	l, e := gang.Mended(b, plan)
	return len(l) == len(b.Miles) && e == api.OK
}

// eachPlan calls f with all plans of a book.
func eachPlan(b api.GangBook, f func(plan []api.GangWork)) {
	var l []api.GangWork
	for night := range b.Nights {
		for gang := range b.Gangs {
			for mile := range b.Miles {
				l = append(l, work(night, gang, mile))
			}
		}
	}
	var goOn func(plan []api.GangWork, from int)
	goOn = func(plan []api.GangWork, from int) {
		f(plan)
		for i := from; i < len(l); i++ {
			longer := append(slices.Clone(plan), l[i])
			if is, _ := gang.May(b, longer); is {
				goOn(longer, i+1)
			}
		}
	}
	goOn(nil, 0)
}

func compare(w, other api.GangWork) int {
	return cmp.Or(w.Night-other.Night, w.Gang-other.Gang, w.Mile-other.Mile)
}

// isSooner reports whether the last night of a plan comes sooner, or it has fewer works, or comes before another one.
func isSooner(plan, other []api.GangWork) bool {
	one, two := plan[len(plan)-1].Night, other[len(other)-1].Night
	return cmp.Or(one-two, len(plan)-len(other), slices.CompareFunc(plan, other, compare)) < 0
}

// subsets returns all lists of miles.
func subsets(miles int) [][]int {
	all := [][]int{nil}
	for mile := range miles {
		for _, l := range all {
			all = append(all, append(slices.Clone(l), mile))
		}
	}
	return all
}

func randomSpan(r *rand.Rand, most, wide int) api.Span {
	n := 1 + r.Intn(most)
	return to(n, min(most, n+r.Intn(wide+1)))
}

// randomGang returns a book of layer 4 in which mostly all miles can be mended, of no more than so many nights.
func randomGang(r *rand.Rand, nights int) api.GangBook {
	b := api.GangBook{Nights: nights - r.Intn(nights)*r.Intn(2)}
	need, count := 1+r.Intn(api.GangNeeds), 1+r.Intn(api.GangMiles)
	for range count {
		b.Miles = append(b.Miles, mile(randomSpan(r, need, r.Intn(3)), r.Intn(16)*r.Intn(2)*r.Intn(2)*r.Intn(2)))
	}
	for range 1 + r.Intn(2) {
		from, last := 0, count-1
		if r.Intn(4) == 0 {
			from = r.Intn(count)
			last = from + r.Intn(count-from)
		}
		b.Gangs = append(b.Gangs, reaches(from, last, randomSpan(r, api.GangWorks, r.Intn(3))))
	}
	return b
}

// randomEnds returns two places that are not the same.
func randomEnds(r *rand.Rand, places int) (int, int) {
	one := r.Intn(places)
	return one, (one + 1 + r.Intn(places-1)) % places
}

// randomBook returns a book whose roads often take as long, and whose coaches mostly can be in time. Where there are few places and many roads, miles can be closed, but often not at once.
func randomBook(r *rand.Rand, nights int) api.WayBook {
	b := api.WayBook{Gang: randomGang(r, nights), Places: 2 + r.Intn(1+r.Intn(3))}
	miles, minutes := r.Perm(len(b.Gang.Miles)), []int{2, 6, 60}[r.Intn(3)]
	for range max(1+r.Intn(api.WayRoads), r.Intn(2)*api.WayRoads) {
		one, two := randomEnds(r, b.Places)
		n := free
		if len(miles) > 0 && r.Intn(4) > 0 {
			n, miles = miles[0], miles[1:]
		}
		b.Roads = append(b.Roads, road(one, two, n, randomSpan(r, minutes, r.Intn(4))))
	}
	for range 1 + r.Intn(api.WayCoaches) {
		one, two := randomEnds(r, b.Places)
		b.Coaches = append(b.Coaches, coach(one, two, min(api.WayLimit, r.Intn(4*minutes))))
	}
	if r.Intn(3) == 0 {
		guard(r, &b)
	}
	settle(r, b)
	return b
}

// guard lays two roads between which a coach can choose: two miles that do not follow each other, if there are such.
func guard(r *rand.Rand, b *api.WayBook) {
	if len(b.Gang.Miles) < 3 {
		return
	}
	first := r.Intn(len(b.Gang.Miles) - 2)
	last := first + 2 + r.Intn(len(b.Gang.Miles)-first-2)
	takes := randomSpan(r, api.WayTakes, api.WayWide)
	b.Roads = []api.WayRoad{road(0, 1, first, takes), road(1, 0, last, takes)}
	b.Coaches = []api.WayCoach{coach(0, 1, 0)}
}

// settle gives coaches time enough, mostly: for their ways if some miles are closed, or any one of them.
func settle(r *rand.Rand, b api.WayBook) {
	o := open(b)
	all := [][]int{randomClosed(r, b, 3)}
	if r.Intn(2) == 0 {
		all = [][]int{nil, {0}, {1}, {2}, {3}}[:1+len(b.Gang.Miles)]
	}
	for n := range b.Coaches {
		enough := 0
		for _, closed := range all {
			enough = max(enough, together(b, o.best(closed, n)).High)
		}
		if r.Intn(10) > 0 {
			b.Coaches[n].Limit = max(0, enough+(r.Intn(3)-1)*(r.Intn(4)/3))
		}
	}
}

// randomClosed returns a list of miles; of so many one is in it.
func randomClosed(r *rand.Rand, b api.WayBook, rare int) []int {
	var l []int
	for mile := range b.Gang.Miles {
		if r.Intn(rare) == 0 {
			l = append(l, mile)
		}
	}
	return l
}

// randomPlan returns a plan: works that are drawn, as long as they are possible.
func randomPlan(r *rand.Rand, b api.GangBook) []api.GangWork {
	var plan []api.GangWork
	rare := 1 + r.Intn(6)
	for night := range b.Nights {
		for gangs := range b.Gangs {
			longer := append(slices.Clone(plan), work(night, gangs, r.Intn(len(b.Miles))))
			if is, _ := gang.May(b, longer); is && r.Intn(rare) == 0 {
				plan = longer
			}
		}
	}
	return plan
}

func eachRandomBook(count, nights int, f func(r *rand.Rand, o *office)) {
	r := rand.New(rand.NewSource(1))
	for range count {
		f(r, open(randomBook(r, nights)))
	}
}

// TestAgainstAllWays holds the way of each coach against all lists of roads, whatever miles are closed (P9.1, P9.2, P9.9).
func TestAgainstAllWays(t *testing.T) {
	eachRandomBook(3000, 1, func(_ *rand.Rand, o *office) {
		for _, closed := range subsets(len(o.Gang.Miles)) {
			for n := range o.Coaches {
				want, f := o.best(closed, n), api.OK
				if want == nil {
					f = api.ErrNone
				}
				if l, e := way.Way(o.WayBook, closed, n); !slices.Equal(l, want) || e != f {
					t.Fatalf("%+v: Way of %d, %v closed: %v, %d; want %v, %d", o.WayBook, n, closed, l, e, want, f)
				}
				if s, e := way.Takes(o.WayBook, closed, n); s != together(o.WayBook, want) || e != f {
					t.Fatalf("%+v: Takes of %d, %v closed: %v, %d; want %v, %d", o.WayBook, n, closed, s, e, together(o.WayBook, want), f)
				}
			}
			if l, e := way.Late(o.WayBook, closed); !slices.Equal(l, o.late(closed)) || e != api.OK {
				t.Fatalf("%+v: Late, %v closed: %v, %d; want %v", o.WayBook, closed, l, e, o.late(closed))
			}
		}
	})
}

// TestAgainstAllSets holds the most miles, and those that can never be closed, against all lists of miles (P9.4, P9.5, P9.12).
func TestAgainstAllSets(t *testing.T) {
	eachRandomBook(10000, 1, func(_ *rand.Rand, o *office) {
		var most, never []int
		e := api.ErrNone
		for _, l := range subsets(len(o.Gang.Miles)) {
			isLate := len(o.late(l)) > 0
			if isLate && len(l) == 1 {
				never = append(never, l[0])
			}
			isBeside := false
			for i, mile := range l {
				isBeside = isBeside || i > 0 && mile == l[i-1]+1
			}
			if !isLate && !isBeside && (e != api.OK || cmp.Or(len(most)-len(l), slices.Compare(l, most)) < 0) {
				most, e = l, api.OK
			}
		}
		if l, f := way.Most(o.WayBook); !slices.Equal(l, most) || f != e {
			t.Fatalf("%+v: Most: %v, %d; want %v, %d", o.WayBook, l, f, most, e)
		}
		if l, f := way.Never(o.WayBook); !slices.Equal(l, never) || f != api.OK {
			t.Fatalf("%+v: Never: %v, %d; want %v", o.WayBook, l, f, never)
		}
	})
}

// TestAgainstAllPlans holds the plan that is told against all plans, one by one (P9.6, P9.11).
func TestAgainstAllPlans(t *testing.T) {
	hold := func(o *office) {
		var best []api.GangWork
		e := api.ErrNone
		eachPlan(o.Gang, func(plan []api.GangWork) {
			if mendsAll(o.Gang, plan) && (e != api.OK || isSooner(plan, best)) && o.isSafe(plan) {
				best, e = plan, api.OK
			}
		})
		if plan, f := way.Plan(o.WayBook); !slices.Equal(plan, best) || f != e {
			t.Fatalf("%+v: Plan: %v, %d; want %v, %d", o.WayBook, plan, f, best, e)
		}
	}
	eachRandomBook(3000, 3, func(_ *rand.Rand, o *office) { hold(o) })
	eachRandomBook(150, 4, func(_ *rand.Rand, o *office) { hold(o) })
	hold(open(book()))
	hold(open(book(wide())))
	hold(open(crowded()))
}

// TestAgainstDefinition has works of which one was changed, or that are drawn, and lists that are drawn (P9.1 to P9.3).
func TestAgainstDefinition(t *testing.T) {
	eachRandomBook(5000, 4, func(r *rand.Rand, o *office) {
		b, plan := o.WayBook, randomPlan(r, o.Gang)
		for i := range plan {
			if r.Intn(6) == 0 {
				plan[i] = work(r.Intn(b.Gang.Nights+2)-1, r.Intn(len(b.Gang.Gangs)+2)-1, r.Intn(len(b.Gang.Miles)+2)-1)
			}
		}
		want := answer{e: api.ErrWayAsk}
		if is, _ := gang.May(b.Gang, plan); is {
			want.e = api.ErrNone
			for night := b.Gang.Nights - 1; night >= 0; night-- {
				if late := o.late(closedBy(plan, night)); len(late) > 0 {
					want = answer{n: night, m: late[0]}
				}
			}
		}
		if n, m, e := way.Night(b, plan); n != want.n || m != want.m || e != want.e {
			t.Fatalf("%+v: Night by %v: %d, %d, %d; want %+v", b, plan, n, m, e, want)
		}
		if is, e := way.Safe(b, plan); is != (want.e == api.ErrNone) || (e == api.ErrWayAsk) != (want.e == api.ErrWayAsk) || e != api.OK && e != api.ErrWayAsk {
			t.Fatalf("%+v: Safe %v: %v, %d; want %+v", b, plan, is, e, want)
		}
		closed := make([]int, r.Intn(4))
		for i := range closed {
			closed[i] = r.Intn(len(b.Gang.Miles)+2) - 1
		}
		isRight := slices.ContainsFunc(subsets(len(b.Gang.Miles)), func(l []int) bool { return slices.Equal(l, closed) })
		all := ask(b, question{closed: closed})
		for _, name := range []string{"Takes", "Way", "Late"} {
			if a := all[name]; isRight == (a.e == api.ErrWayAsk) || !isRight && !isNothingBut(a, api.ErrWayAsk) {
				t.Fatalf("%+v: %s, %v closed: %+v", b, name, closed, a)
			}
		}
	})
}

// TestEveryCoachHasAWay draws how long roads truly take: by the way that is told a coach takes no less and no more than is told, and is in time if it is not told to be late (P9.8).
func TestEveryCoachHasAWay(t *testing.T) {
	eachRandomBook(5000, 1, func(r *rand.Rand, o *office) {
		closed := randomClosed(r, o.WayBook, 4)
		late, e := way.Late(o.WayBook, closed)
		for n, c := range o.Coaches {
			l, f := way.Way(o.WayBook, closed, n)
			s, g := way.Takes(o.WayBook, closed, n)
			if f != g || e != api.OK || f != api.OK && !slices.Contains(late, n) {
				t.Fatalf("%+v: %v closed: Way of %d: %v, %d, Takes %v, %d, Late %v, %d", o.WayBook, closed, n, l, f, s, g, late, e)
			}
			if f != api.OK {
				continue
			}
			truly := 0
			for _, road := range l {
				takes := o.Roads[road].Takes
				truly += takes.Low + r.Intn(takes.High-takes.Low+1)
			}
			if !isWay(o.WayBook, closed, c, l) || truly < s.Low || truly > s.High || truly > c.Limit && !slices.Contains(late, n) {
				t.Fatalf("%+v: %v closed: %d goes %v in %d, Takes %v, Late %v", o.WayBook, closed, n, l, truly, s, late)
			}
		}
	})
}

// TestAMileMore closes one mile more: no coach takes less at most, and none is in time that was late (P9.10).
func TestAMileMore(t *testing.T) {
	eachRandomBook(5000, 1, func(r *rand.Rand, o *office) {
		all := randomClosed(r, o.WayBook, 2)
		for i := range all {
			less := slices.Delete(slices.Clone(all), i, i+1)
			for n := range o.Coaches {
				one, e := way.Takes(o.WayBook, less, n)
				two, f := way.Takes(o.WayBook, all, n)
				if e == api.ErrNone && f != api.ErrNone || f == api.OK && two.High < one.High {
					t.Fatalf("%+v: Takes of %d, %v closed: %v, %d; %v: %v, %d", o.WayBook, n, less, one, e, all, two, f)
				}
			}
			one, e := way.Late(o.WayBook, less)
			two, f := way.Late(o.WayBook, all)
			isLate := func(n int) bool { return slices.Contains(two, n) }
			if e != api.OK || f != api.OK || slices.ContainsFunc(one, func(n int) bool { return !isLate(n) }) {
				t.Fatalf("%+v: Late, %v closed: %v, %d; %v: %v, %d", o.WayBook, less, one, e, all, two, f)
			}
		}
	})
}

// TestAMileIsClosedOnlySo has the plan that is told: by it all miles are mended, but not without one of its works, and no coach is late; it is that of layer 4 if that is safe, else a later one (P9.11).
func TestAMileIsClosedOnlySo(t *testing.T) {
	eachRandomBook(3000, 4, func(r *rand.Rand, o *office) {
		plan, e := way.Plan(o.WayBook)
		other, f := gang.Plan(o.Gang)
		isSafe, _ := way.Safe(o.WayBook, other)
		isBest := e == f && slices.Equal(plan, other)
		if f == api.OK && isSafe && !isBest || e == api.OK && !isBest && (f != api.OK || isSafe || isSooner(plan, other)) {
			t.Fatalf("%+v: Plan: %v, %d; layer 4: %v, %d", o.WayBook, plan, e, other, f)
		}
		drawn := randomPlan(r, o.Gang)
		if is, _ := way.Safe(o.WayBook, drawn); is && mendsAll(o.Gang, drawn) && (e != api.OK || isSooner(drawn, plan)) {
			t.Fatalf("%+v: Plan: %v, %d; as safe is %v", o.WayBook, plan, e, drawn)
		}
		if e != api.OK {
			return
		}
		if is, f := way.Safe(o.WayBook, plan); !is || f != api.OK || !mendsAll(o.Gang, plan) {
			t.Fatalf("%+v: Plan: %v: %v, %d", o.WayBook, plan, is, f)
		}
		for i := range plan {
			if mendsAll(o.Gang, slices.Delete(slices.Clone(plan), i, i+1)) {
				t.Fatalf("%+v: Plan: %v mends all without the work %d", o.WayBook, plan, i)
			}
		}
		for night := range o.Gang.Nights {
			closed, _ := gang.Closed(o.Gang, plan, night)
			if l, f := way.Late(o.WayBook, closed); len(l) > 0 || f != api.OK {
				t.Fatalf("%+v: Plan: %v; on %d late are %v, %d", o.WayBook, plan, night, l, f)
			}
		}
	})
}

// TestTheMostCanBeClosed closes the most miles that are told: no coach is late, none of them is never closed, and no plan that is safe closes more on a night (P9.12).
func TestTheMostCanBeClosed(t *testing.T) {
	eachRandomBook(5000, 4, func(r *rand.Rand, o *office) {
		most, e := way.Most(o.WayBook)
		never, f := way.Never(o.WayBook)
		none, _ := way.Late(o.WayBook, nil)
		if f != api.OK || (e == api.OK) != (len(none) == 0) || e != api.OK && len(never) != len(o.Gang.Miles) {
			t.Fatalf("%+v: Most: %v, %d; Never: %v, %d; late if none is closed: %v", o.WayBook, most, e, never, f, none)
		}
		isNever := func(mile int) bool { return slices.Contains(never, mile) }
		if l, f := way.Late(o.WayBook, most); e == api.OK && len(l) > 0 || f != api.OK || slices.ContainsFunc(most, isNever) {
			t.Fatalf("%+v: Most: %v, %d; Never: %v; Late: %v, %d", o.WayBook, most, e, never, l, f)
		}
		plan := randomPlan(r, o.Gang)
		if is, _ := way.Safe(o.WayBook, plan); !is {
			return
		}
		for night := range o.Gang.Nights {
			if l := closedBy(plan, night); len(l) > len(most) || slices.ContainsFunc(l, isNever) {
				t.Fatalf("%+v: Most: %v, Never: %v; by the safe %v on %d closed are %v", o.WayBook, most, never, plan, night, l)
			}
		}
	})
}

// TestTheSameWayBack has coaches that go back: they take as long at most, and the same way back is one of theirs (P9.13).
func TestTheSameWayBack(t *testing.T) {
	eachRandomBook(5000, 1, func(r *rand.Rand, o *office) {
		back, closed := cloneBook(o.WayBook), randomClosed(r, o.WayBook, 4)
		for n, c := range o.Coaches {
			back.Coaches[n] = coach(c.To, c.From, c.Limit)
		}
		for n := range o.Coaches {
			one, e := way.Takes(o.WayBook, closed, n)
			two, f := way.Takes(back, closed, n)
			l, _ := way.Way(o.WayBook, closed, n)
			m, _ := way.Way(back, closed, n)
			slices.Reverse(m)
			if e != f || one.High != two.High || len(l) != len(m) || slices.Equal(l, m) && one != two {
				t.Fatalf("%+v: %v closed: %d goes %v, %v, %d; back %v, %v, %d", o.WayBook, closed, n, l, one, e, m, two, f)
			}
			if e == api.OK && !isWay(o.WayBook, closed, o.Coaches[n], m) {
				t.Fatalf("%+v: %v closed: %d goes %v; back %v", o.WayBook, closed, n, l, m)
			}
		}
		one, e := way.Late(o.WayBook, closed)
		two, f := way.Late(back, closed)
		if !slices.Equal(one, two) || e != f {
			t.Fatalf("%+v: %v closed: Late %v, %d; back %v, %d", o.WayBook, closed, one, e, two, f)
		}
	})
}

// crowded has four miles that need nearly all that can be done; of two of them only one can be closed.
func crowded() api.WayBook {
	b := net(twins(just(9), just(9)), isMile(1, 3), limit(0, 9), gangs(reaches(0, 3, just(3)), reaches(0, 3, to(1, 3))))
	b.Gang.Miles = []api.GangMile{mile(to(2, 4), 0), mile(just(3), 0), mile(just(3), 0), mile(to(2, 4), 0)}
	return b
}

func BenchmarkPlan(bench *testing.B) {
	b := crowded()
	for bench.Loop() {
		way.Plan(b)
	}
}

func BenchmarkTakes(bench *testing.B) {
	b := full()
	for bench.Loop() {
		way.Takes(b, []int{1, 3}, 1)
	}
}
