package gang_test

import (
	"cmp"
	"math/rand"
	"slices"
	"testing"

	"macadam/api"
	"macadam/gang"
)

// telling is a truth as the chapter defines it: what each mile needs, and what each gang works.
type telling struct{ needs, works []int }

// all returns all lists that have one of the numbers of each span.
func all(spans []api.Span) [][]int {
	lists := [][]int{nil}
	for _, s := range spans {
		var longer [][]int
		for _, l := range lists {
			for n := s.Low; n <= s.High; n++ {
				longer = append(longer, append(slices.Clone(l), n))
			}
		}
		lists = longer
	}
	return lists
}

func tellings(b api.GangBook) []telling {
	var needs, works []api.Span
	for _, m := range b.Miles {
		needs = append(needs, m.Needs)
	}
	for _, g := range b.Gangs {
		works = append(works, g.Works)
	}
	var l []telling
	for _, n := range all(needs) {
		for _, w := range all(works) {
			l = append(l, telling{n, w})
		}
	}
	return l
}

// done goes through the works of a plan, as the chapter says.
func (t telling) done(plan []api.GangWork, mile int) int {
	done := 0
	for _, w := range plan {
		if w.Mile == mile {
			done += t.works[w.Gang]
		}
	}
	return done
}

// canWork tells by the definition whether a gang can work at a mile on a night, whatever their numbers are.
func canWork(b api.GangBook, w api.GangWork) bool {
	if w.Night < 0 || w.Night >= b.Nights || w.Gang < 0 || w.Gang >= len(b.Gangs) || w.Mile < 0 || w.Mile >= len(b.Miles) {
		return false
	}
	return b.Gangs[w.Gang].From <= w.Mile && w.Mile <= b.Gangs[w.Gang].To && b.Miles[w.Mile].Mails&(1<<w.Night) == 0
}

// isPlan tells by the definition whether works are a plan: all of them, then each with the one behind it, then each with each.
func isPlan(b api.GangBook, plan []api.GangWork) bool {
	for i, w := range plan {
		if !canWork(b, w) {
			return false
		}
		if i > 0 && (w.Night < plan[i-1].Night || w.Night == plan[i-1].Night && w.Gang <= plan[i-1].Gang) {
			return false
		}
		for _, other := range plan[:i] {
			if apart := w.Mile - other.Mile; w.Night == other.Night && apart > -2 && apart < 2 {
				return false
			}
		}
	}
	return true
}

// places returns all works that are possible one by one.
func places(b api.GangBook) []api.GangWork {
	var l []api.GangWork
	for night := range b.Nights {
		for gang := range b.Gangs {
			for mile := range b.Miles {
				if w := work(night, gang, mile); canWork(b, w) {
					l = append(l, w)
				}
			}
		}
	}
	return l
}

// eachPlan calls f with all plans of a book, each one before those that it begins: in their order.
func eachPlan(b api.GangBook, f func(plan []api.GangWork)) {
	l := places(b)
	var goOn func(plan []api.GangWork)
	goOn = func(plan []api.GangWork) {
		f(plan)
		for _, w := range l {
			if len(plan) > 0 && compare(w, plan[len(plan)-1]) < 0 {
				continue
			}
			if longer := append(slices.Clone(plan), w); isPlan(b, longer) {
				goOn(longer)
			}
		}
	}
	goOn(nil)
}

func compare(w, other api.GangWork) int {
	return cmp.Or(w.Night-other.Night, w.Gang-other.Gang, w.Mile-other.Mile)
}

// mended returns all miles that are mended in each truth.
func mended(b api.GangBook, truths []telling, plan []api.GangWork) []int {
	var l []int
	for mile := range b.Miles {
		if !slices.ContainsFunc(truths, func(t telling) bool { return t.done(plan, mile) < t.needs[mile] }) {
			l = append(l, mile)
		}
	}
	return l
}

func randomSpan(r *rand.Rand, most, wide int) api.Span {
	n := 1 + r.Intn(most)
	return to(n, min(most, n+r.Intn(wide+1)))
}

// randomBook returns a book in which much can be done or little, of no more than so many nights.
func randomBook(r *rand.Rand, nights int) api.GangBook {
	b := api.GangBook{Nights: 1 + r.Intn(nights)}
	count, needs, works, post := 1+r.Intn(4), 1+r.Intn(6), 1+r.Intn(3), r.Intn(4)
	for range count {
		set := 0
		for range post {
			set |= r.Intn(16) & r.Intn(16)
		}
		b.Miles = append(b.Miles, mile(randomSpan(r, needs, 2), set))
	}
	for range 1 + r.Intn(2) {
		from := r.Intn(count)
		b.Gangs = append(b.Gangs, reaches(from, from+r.Intn(count-from), randomSpan(r, works, 2)))
	}
	return b
}

// randomPlan returns a plan of a book: works that are drawn, as long as they are possible.
func randomPlan(r *rand.Rand, b api.GangBook) []api.GangWork {
	var plan []api.GangWork
	for _, w := range places(b) {
		if longer := append(slices.Clone(plan), w); r.Intn(3) > 0 && isPlan(b, longer) {
			plan = longer
		}
	}
	return plan
}

func eachRandomBook(count, nights int, f func(r *rand.Rand, b api.GangBook)) {
	r := rand.New(rand.NewSource(1))
	for range count {
		f(r, randomBook(r, nights))
	}
}

// TestAgainstAllPlans holds the best answers against those of all plans and all truths, one by one (P4.5 to P4.7, P4.11).
func TestAgainstAllPlans(t *testing.T) {
	hold := func(b api.GangBook) {
		truths := tellings(b)
		var plan []api.GangWork
		var most []int
		e, can := api.ErrNone, map[int]bool{}
		eachPlan(b, func(p []api.GangWork) {
			l := mended(b, truths, p)
			for _, mile := range l {
				can[mile] = true
			}
			if cmp.Or(cmp.Compare(len(most), len(l)), slices.Compare(l, most)) < 0 {
				most = l
			}
			if len(l) == len(b.Miles) && (e != api.OK || isBetter(p, plan)) {
				plan, e = p, api.OK
			}
		})
		if got, f := gang.Plan(b); !slices.Equal(got, plan) || f != e {
			t.Fatalf("%+v: Plan: %v, %d; want %v, %d", b, got, f, plan, e)
		}
		if got, f := gang.Most(b); !slices.Equal(got, most) || f != api.OK {
			t.Fatalf("%+v: Most: %v, %d; want %v", b, got, f, most)
		}
		first, e := 0, api.ErrNone
		for mile := range b.Miles {
			if !can[mile] && e != api.OK {
				first, e = mile, api.OK
			}
		}
		if got, f := gang.First(b); got != first || f != e {
			t.Fatalf("%+v: First: %d, %d; want %d, %d", b, got, f, first, e)
		}
	}
	eachRandomBook(1500, 3, func(_ *rand.Rand, b api.GangBook) { hold(b) })
	eachRandomBook(60, 4, func(_ *rand.Rand, b api.GangBook) { hold(b) })
	hold(full(4, 1, 2))
	hold(full(3, 1, 3))
	hold(book())
	hold(crowded())
}

// isBetter reports whether the last night of a plan comes sooner, or it has fewer works, or comes before another one.
func isBetter(plan, other []api.GangWork) bool {
	one, two := plan[len(plan)-1].Night, other[len(other)-1].Night
	return cmp.Or(one-two, len(plan)-len(other), slices.CompareFunc(plan, other, compare)) < 0
}

// TestAgainstAllTruths holds what is told of a plan against what all truths tell (P4.1 to P4.4).
func TestAgainstAllTruths(t *testing.T) {
	eachRandomBook(3000, 4, func(r *rand.Rand, b api.GangBook) {
		holdCan(t, b)
		truths, plan := tellings(b), randomPlan(r, b)
		if is, e := gang.May(b, plan); !is || e != api.OK {
			t.Fatalf("%+v: May %v: %v, %d", b, plan, is, e)
		}
		for mile := range b.Miles {
			want := just(truths[0].done(plan, mile))
			for _, x := range truths {
				want = to(min(want.Low, x.done(plan, mile)), max(want.High, x.done(plan, mile)))
			}
			if s, e := gang.Done(b, plan, mile); s != want || e != api.OK {
				t.Fatalf("%+v: Done at %d by %v: %v, %d; want %v", b, mile, plan, s, e, want)
			}
		}
		want := mended(b, truths, plan)
		if l, e := gang.Mended(b, plan); !slices.Equal(l, want) || e != api.OK {
			t.Fatalf("%+v: Mended by %v: %v, %d; want %v", b, plan, l, e, want)
		}
		open, f := 0, api.ErrNone
		for mile := len(b.Miles) - 1; mile >= 0; mile-- {
			if !slices.Contains(want, mile) {
				open, f = mile, api.OK
			}
		}
		if n, e := gang.Open(b, plan); n != open || e != f {
			t.Fatalf("%+v: Open by %v: %d, %d; want %d, %d", b, plan, n, e, open, f)
		}
	})
}

func holdCan(t *testing.T, b api.GangBook) {
	for n := range b.Gangs {
		for mile := range b.Miles {
			var want []int
			for night := range b.Nights {
				if canWork(b, work(night, n, mile)) {
					want = append(want, night)
				}
			}
			if l, e := gang.Can(b, n, mile); !slices.Equal(l, want) || e != api.OK {
				t.Fatalf("%+v: Can %d, %d: %v, %d; want %v", b, n, mile, l, e, want)
			}
		}
	}
}

// TestAgainstDefinition has works of which one was changed, or that are drawn (P4.2 to P4.4).
func TestAgainstDefinition(t *testing.T) {
	eachRandomBook(5000, 4, func(r *rand.Rand, b api.GangBook) {
		plan := randomPlan(r, b)
		for i := range plan {
			if r.Intn(4) == 0 {
				plan[i] = work(r.Intn(b.Nights+2)-1, r.Intn(len(b.Gangs)+2)-1, r.Intn(len(b.Miles)+2)-1)
			}
		}
		if len(plan) > 1 && r.Intn(4) == 0 {
			plan[0], plan[1] = plan[1], plan[0]
		}
		want := isPlan(b, plan)
		if is, e := gang.May(b, plan); is != want || e != api.OK {
			t.Fatalf("%+v: May %v: %v, %d", b, plan, is, e)
		}
		all := ask(b, plan, question{})
		for _, name := range []string{"Closed", "Done", "Mended", "Open"} {
			if a := all[name]; want == (a.e == api.ErrGangAsk) || !want && !isNothingBut(a, api.ErrGangAsk) {
				t.Fatalf("%+v: %s by %v: %+v", b, name, plan, a)
			}
		}
	})
}

// TestNoMileIsClosedOnAMailNight has plans that are drawn, and those that are told (P4.9).
func TestNoMileIsClosedOnAMailNight(t *testing.T) {
	eachRandomBook(3000, 4, func(r *rand.Rand, b api.GangBook) {
		told, _ := gang.Plan(b)
		for _, plan := range [][]api.GangWork{randomPlan(r, b), told} {
			count := 0
			for night := range b.Nights {
				l, e := gang.Closed(b, plan, night)
				count += len(l)
				for i, mile := range l {
					isWorkedAt := slices.ContainsFunc(plan, func(w api.GangWork) bool { return w.Night == night && w.Mile == mile })
					if !isWorkedAt || b.Miles[mile].Mails>>night&1 == 1 || i > 0 && mile-l[i-1] < 2 || e != api.OK {
						t.Fatalf("%+v: Closed on %d by %v: %v, %d", b, night, plan, l, e)
					}
				}
			}
			if count != len(plan) {
				t.Fatalf("%+v: %d miles are closed by %v", b, count, plan)
			}
		}
	})
}

// TestWhateverIsTrulyDone draws a truth: what is done in it lies between what is returned, and miles that are told to be mended are (P4.10).
func TestWhateverIsTrulyDone(t *testing.T) {
	eachRandomBook(3000, 4, func(r *rand.Rand, b api.GangBook) {
		truths := tellings(b)
		truth := truths[r.Intn(len(truths))]
		told, _ := gang.Plan(b)
		for _, plan := range [][]api.GangWork{randomPlan(r, b), told} {
			l, e := gang.Mended(b, plan)
			for mile := range b.Miles {
				done := truth.done(plan, mile)
				s, f := gang.Done(b, plan, mile)
				if done < s.Low || done > s.High || slices.Contains(l, mile) && done < truth.needs[mile] || e != api.OK || f != api.OK {
					t.Fatalf("%+v: by %v Done at %d %v, %d, Mended %v, %d; truly %d of %d", b, plan, mile, s, f, l, e, done, truth.needs[mile])
				}
			}
		}
	})
}

// TestTheFewestNights has the plan that is told: it mends all, but not without one of its works, nor without its last night (P4.11).
func TestTheFewestNights(t *testing.T) {
	eachRandomBook(3000, 4, func(_ *rand.Rand, b api.GangBook) {
		plan, e := gang.Plan(b)
		if e != api.OK {
			return
		}
		is, _ := gang.May(b, plan)
		if _, e := gang.Open(b, plan); !is || e != api.ErrNone {
			t.Fatalf("%+v: Plan %v: %v, %d", b, plan, is, e)
		}
		for i := range plan {
			if _, e := gang.Open(b, slices.Delete(slices.Clone(plan), i, i+1)); e != api.OK {
				t.Fatalf("%+v: Plan %v mends all without the work %d", b, plan, i)
			}
		}
		last := plan[len(plan)-1].Night
		b.Nights = last + 1
		if again, e := gang.Plan(b); !slices.Equal(again, plan) || e != api.OK {
			t.Fatalf("%+v: Plan %v, %d; with more nights %v", b, again, e, plan)
		}
		if b.Nights = last; last > 0 {
			if l, e := gang.Plan(b); e != api.ErrNone {
				t.Fatalf("%+v: Plan %v, %d; with more nights %v", b, l, e, plan)
			}
		}
	})
}

// TestTheMostAreAll holds Plan, Most and First against each other (P4.12).
func TestTheMostAreAll(t *testing.T) {
	eachRandomBook(5000, 4, func(_ *rand.Rand, b api.GangBook) {
		_, e := gang.Plan(b)
		most, f := gang.Most(b)
		first, g := gang.First(b)
		if f != api.OK || (e == api.OK) != (len(most) == len(b.Miles)) || e == api.OK && g != api.ErrNone {
			t.Fatalf("%+v: Plan %d, Most %v, %d, First %d, %d", b, e, most, f, first, g)
		}
		if g == api.OK && slices.Contains(most, first) {
			t.Fatalf("%+v: Most %v, First %d", b, most, first)
		}
	})
}

// easier returns a book that is easier in one way.
func easier(r *rand.Rand, b api.GangBook) api.GangBook {
	easy := cloneBook(b)
	m, g := &easy.Miles[r.Intn(len(b.Miles))], &easy.Gangs[r.Intn(len(b.Gangs))]
	switch r.Intn(5) {
	case 0:
		easy.Nights = min(api.GangNights, b.Nights+1)
	case 1:
		m.Mails &= r.Intn(16)
	case 2:
		g.From = max(0, g.From-1)
	case 3:
		g.To = min(len(b.Miles)-1, g.To+1)
	default:
		m.Needs = to(max(1, m.Needs.Low-1), max(1, m.Needs.High-1))
	}
	return easy
}

// TestEasier has a night more, fewer mails, a gang that reaches farther, or a mile that needs less (P4.13).
func TestEasier(t *testing.T) {
	eachRandomBook(5000, 4, func(r *rand.Rand, b api.GangBook) {
		easy := easier(r, b)
		one, _ := gang.Most(b)
		two, e := gang.Most(easy)
		if e != api.OK || len(two) < len(one) {
			t.Fatalf("%+v: Most %v; easier %+v: %v, %d", b, one, easy, two, e)
		}
		first, e := gang.First(b)
		then, f := gang.First(easy)
		if e == api.ErrNone && f != api.ErrNone || f == api.OK && then < first {
			t.Fatalf("%+v: First %d, %d; easier %+v: %d, %d", b, first, e, easy, then, f)
		}
		plan, e := gang.Plan(b)
		soon, f := gang.Plan(easy)
		if e == api.OK && (f != api.OK || soon[len(soon)-1].Night > plan[len(plan)-1].Night) {
			t.Fatalf("%+v: Plan %v; easier %+v: %v, %d", b, plan, easy, soon, f)
		}
	})
}

func BenchmarkPlan(bench *testing.B) {
	b := full(4, 1, 2)
	for bench.Loop() {
		gang.Plan(b)
	}
}

func BenchmarkMost(bench *testing.B) {
	b := full(4, 1, 2)
	for bench.Loop() {
		gang.Most(b)
	}
}
