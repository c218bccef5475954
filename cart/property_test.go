package cart_test

import (
	"cmp"
	"math/rand"
	"slices"
	"testing"

	"macadam/api"
	"macadam/cart"
	"macadam/rut"
)

// telling is a truth of ruts as the chapter on them defines it, all of it written out.
type telling struct {
	starts []int
	wears  [3]int
	frost  []bool
}

// all returns all lists that have one of the numbers of each span.
func all(spans []api.Span) [][]int {
	lists := [][]int{nil}
	for _, s := range spans {
		var longer [][]int
		for _, l := range lists {
			for n := s.Low; n <= s.High; n++ {
				longer = append(longer, append(slices.Clone(l), n))
			}
		}
		lists = longer
	}
	return lists
}

// tellings returns all truths of a book in which its staffs are right, and without what is sent.
func tellings(b api.RutBook) []telling {
	nights := make([]api.Span, len(b.Days))
	for i, d := range b.Days {
		nights[i] = []api.Span{just(0), to(0, 1), just(1)}[d.Frost]
	}
	var l []telling
	for _, starts := range all(b.Miles) {
		for _, wears := range all(b.Wears[:]) {
			for _, night := range all(nights) {
				t := telling{starts: starts, wears: [3]int(wears)}
				for _, n := range night {
					t.frost = append(t.frost, n == 1)
				}
				if t.isRight(b) {
					l = append(l, t)
				}
			}
		}
	}
	return l
}

func (t telling) isRight(b api.RutBook) bool {
	for _, s := range b.Staffs {
		off := s.Read - t.depth(b, nil, s.Mile, s.Day)
		if off < -s.Error || off > s.Error {
			return false
		}
	}
	return true
}

// depth goes through all days until this one, as the chapters say.
func (t telling) depth(b api.RutBook, plan []api.CartSend, mile, day int) int {
	deep := t.starts[mile]
	for d := 0; d <= day; d++ {
		isSent := slices.ContainsFunc(plan, func(s api.CartSend) bool { return s.Mile == mile && s.Day == d })
		if isSent || slices.Contains(b.Mends, mend(mile, d)) {
			deep = 0
		}
		deep += b.Days[d].Narrow*t.wears[0] + b.Days[d].Broad*t.wears[1]
		if t.frost[d] {
			deep += t.wears[2]
		}
	}
	return deep
}

// office is a book with all its truths. deeps has what was calculated before, by a mile and the days on which is sent to it.
type office struct {
	api.CartBook
	truths []telling
	deeps  map[[2]int][]api.Span
}

func open(b api.CartBook) *office {
	return &office{b, tellings(b.Rut), map[[2]int][]api.Span{}}
}

// deep returns how deep a mile is at the end of each day, in all truths.
func (o *office) deep(plan []api.CartSend, mile int) []api.Span {
	key := [2]int{mile, 0}
	for _, s := range plan {
		if s.Mile == mile {
			key[1] |= 1 << s.Day
		}
	}
	if l, is := o.deeps[key]; is {
		return l
	}
	var l []api.Span
	for day := range o.Rut.Days {
		s := just(o.truths[0].depth(o.Rut, plan, mile, day))
		for _, t := range o.truths {
			deep := t.depth(o.Rut, plan, mile, day)
			s = to(min(s.Low, deep), max(s.High, deep))
		}
		l = append(l, s)
	}
	o.deeps[key] = l
	return l
}

func (o *office) isKept(plan []api.CartSend, mile int) bool {
	return !slices.ContainsFunc(o.deep(plan, mile), func(s api.Span) bool { return s.High > o.Rut.Act })
}

func (o *office) isSafe(plan []api.CartSend) bool {
	for mile := range o.Rut.Miles {
		if !o.isKept(plan, mile) {
			return false
		}
	}
	return true
}

// isPlan tells by the definition whether sends are a plan: each one, each with the one behind it, then all of them.
func isPlan(b api.CartBook, plan []api.CartSend) bool {
	for i, s := range plan {
		if !canSend(b, s) || i > 0 && (s.Day < plan[i-1].Day || s.Day == plan[i-1].Day && s.Mile <= plan[i-1].Mile) {
			return false
		}
	}
	for n, d := range b.Depots {
		if sent(b, plan, n) > d.Stock {
			return false
		}
		for day := range b.Rut.Days {
			if sent(b, slices.DeleteFunc(slices.Clone(plan), func(s api.CartSend) bool { return s.Day != day }), n) > d.Carts {
				return false
			}
		}
	}
	return len(plan)+len(b.Rut.Mends) <= 6
}

// canSend tells by the definition whether a send is possible, if there is stone, whatever its numbers are.
func canSend(b api.CartBook, s api.CartSend) bool {
	if s.Day < 0 || s.Day >= len(b.Rut.Days) || s.Mile < 0 || s.Mile >= len(b.Rut.Miles) || s.Depot < 0 || s.Depot >= len(b.Depots) {
		return false
	}
	isClosed := slices.ContainsFunc(b.Rut.Staffs, func(r api.RutStaff) bool { return r.Day >= s.Day })
	return !isClosed && b.Depots[s.Depot].From <= s.Mile && s.Mile <= b.Depots[s.Depot].To && !slices.Contains(b.Rut.Mends, mend(s.Mile, s.Day))
}

// sent returns how much a depot sends.
func sent(b api.CartBook, plan []api.CartSend, depot int) int {
	yards := 0
	for _, s := range plan {
		if s.Depot == depot {
			yards += b.Needs[s.Mile]
		}
	}
	return yards
}

// stone returns how much all depots send.
func stone(b api.CartBook, plan []api.CartSend) int {
	return sent(b, plan, 0) + sent(b, plan, 1)
}

// places returns all sends that are possible one by one.
func places(b api.CartBook) []api.CartSend {
	var l []api.CartSend
	for day := range b.Rut.Days {
		for mile := range b.Rut.Miles {
			for depot := range b.Depots {
				if s := send(day, mile, depot); canSend(b, s) {
					l = append(l, s)
				}
			}
		}
	}
	return l
}

// eachPlan calls f with all plans of a book, each one before those that it begins: in their order.
func eachPlan(b api.CartBook, f func(plan []api.CartSend)) {
	l := places(b)
	var goOn func(plan []api.CartSend, from int)
	goOn = func(plan []api.CartSend, from int) {
		f(plan)
		for i := from; i < len(l); i++ {
			if longer := append(slices.Clone(plan), l[i]); isPlan(b, longer) {
				goOn(longer, i+1)
			}
		}
	}
	goOn(nil, 0)
}

func compare(s, other api.CartSend) int {
	return cmp.Or(s.Day-other.Day, s.Mile-other.Mile, s.Depot-other.Depot)
}

func cloneBook(b api.CartBook) api.CartBook {
	b.Rut.Miles, b.Rut.Days, b.Rut.Mends, b.Rut.Staffs = slices.Clone(b.Rut.Miles), slices.Clone(b.Rut.Days), slices.Clone(b.Rut.Mends), slices.Clone(b.Rut.Staffs)
	b.Needs, b.Depots = slices.Clone(b.Needs), slices.Clone(b.Depots)
	return b
}

func randomSpan(r *rand.Rand, low, most, wide int) api.Span {
	n := low + r.Intn(most+1-low)
	return to(n, min(most, n+r.Intn(wide+1)))
}

// randomBook returns a book of no more than so many days, whose act mostly asks for some mends, but not for all.
func randomBook(r *rand.Rand, days int) api.CartBook {
	var b api.CartBook
	count, passes := 1+r.Intn(3), 1+r.Intn(6)
	for range count {
		b.Rut.Miles = append(b.Rut.Miles, randomSpan(r, 0, 8, r.Intn(3)))
		b.Needs = append(b.Needs, 1+r.Intn([]int{2, 6, 20}[r.Intn(3)]))
	}
	for kind := range b.Rut.Wears {
		b.Rut.Wears[kind] = randomSpan(r, 0, 3, 1)
	}
	for range 1 + r.Intn(days) {
		b.Rut.Days = append(b.Rut.Days, api.RutDay{Narrow: r.Intn(passes), Broad: r.Intn(passes), Frost: r.Intn(3)})
	}
	for range r.Intn(1+r.Intn(3)) + r.Intn(2)*r.Intn(2)*r.Intn(5) {
		b.Rut.Mends = append(b.Rut.Mends, mend(r.Intn(count), r.Intn(len(b.Rut.Days))))
	}
	for range 1 + r.Intn(2) {
		from, last := 0, count-1
		if r.Intn(3) == 0 {
			from = r.Intn(count)
			last = from + r.Intn(count-from)
		}
		carts := []int{r.Intn(8), r.Intn(41), slices.Max(b.Needs)}[r.Intn(3)]
		b.Depots = append(b.Depots, depot(from, last, r.Intn([]int{20, 60}[r.Intn(2)]), carts))
	}
	b.Rut.Act = randomAct(r, b.Rut)
	measure(r, &b.Rut)
	return b
}

// randomAct returns an act that mostly allows what one day costs, but not what all days do.
func randomAct(r *rand.Rand, b api.RutBook) int {
	least, most := 0, 0
	for _, d := range b.Days {
		grows := d.Narrow*b.Wears[0].High + d.Broad*b.Wears[1].High + min(d.Frost, 1)*b.Wears[2].High
		least, most = max(least, grows), most+grows
	}
	return r.Intn(10) + least + r.Intn(1+r.Intn(most-least+1))
}

// measure adds staffs now and then, mostly on the first days, and mostly right ones.
func measure(r *rand.Rand, b *api.RutBook) {
	l := tellings(*b)
	truth := l[r.Intn(len(l))]
	for range max(0, r.Intn(4)-1) {
		s := staff(r.Intn(len(b.Miles)), r.Intn(1+r.Intn(len(b.Days))), 0, r.Intn(3))
		s.Read = max(0, truth.depth(*b, nil, s.Mile, s.Day)+r.Intn(2*s.Error+1)-s.Error+r.Intn(20)/19*5)
		b.Staffs = append(b.Staffs, s)
	}
}

// randomPlan returns a plan of a book: sends that are drawn, as long as they are possible.
func randomPlan(r *rand.Rand, b api.CartBook) []api.CartSend {
	var plan []api.CartSend
	for _, s := range places(b) {
		if longer := append(slices.Clone(plan), s); r.Intn(3) == 0 && isPlan(b, longer) {
			plan = longer
		}
	}
	return plan
}

func eachRandomBook(count, days int, f func(r *rand.Rand, o *office)) {
	r := rand.New(rand.NewSource(1))
	for range count {
		f(r, open(randomBook(r, days)))
	}
}

// eachTrueBook has books whose ruts can be so.
func eachTrueBook(count, days int, f func(r *rand.Rand, o *office)) {
	eachRandomBook(count, days, func(r *rand.Rand, o *office) {
		if len(o.truths) > 0 {
			f(r, o)
		}
	})
}

// TestAgainstAllPlans holds the best answers against those of all plans and all truths, one by one (P8.4 to P8.6, P8.9, P8.12).
func TestAgainstAllPlans(t *testing.T) {
	hold := func(o *office) {
		var plan []api.CartSend
		e, kept := api.ErrNone, map[int]bool{}
		eachPlan(o.CartBook, func(p []api.CartSend) {
			for mile := range o.Rut.Miles {
				kept[mile] = kept[mile] || o.isKept(p, mile)
			}
			if o.isSafe(p) && (e != api.OK || cmp.Or(stone(o.CartBook, p)-stone(o.CartBook, plan), slices.CompareFunc(p, plan, compare)) < 0) {
				plan, e = p, api.OK
			}
		})
		if got, f := cart.Plan(o.CartBook); !slices.Equal(got, plan) || f != e {
			t.Fatalf("%+v: Plan: %v, %d; want %v, %d", o.CartBook, got, f, plan, e)
		}
		must, e := 0, api.ErrNone
		for mile := len(o.Rut.Miles) - 1; mile >= 0; mile-- {
			if !kept[mile] {
				must, e = mile, api.OK
			}
		}
		if got, f := cart.Must(o.CartBook); got != must || f != e {
			t.Fatalf("%+v: Must: %d, %d; want %d, %d", o.CartBook, got, f, must, e)
		}
	}
	eachTrueBook(4000, 4, func(_ *rand.Rand, o *office) { hold(o) })
	hold(open(book()))
	hold(open(book(poor())))
}

// TestAgainstAllStocks lets a depot have as much as any can, and holds its least stock against what it sends by all plans (P8.6, P8.12).
func TestAgainstAllStocks(t *testing.T) {
	eachTrueBook(1000, 4, func(r *rand.Rand, o *office) {
		n := r.Intn(len(o.Depots))
		rich := cloneBook(o.CartBook)
		rich.Depots[n].Stock = api.CartStock
		least, e := 0, api.ErrNone
		eachPlan(rich, func(p []api.CartSend) {
			if yards := sent(rich, p, n); (e != api.OK || yards < least) && o.isSafe(p) {
				least, e = yards, api.OK
			}
		})
		if got, f := cart.Stock(o.CartBook, n); got != least || f != e {
			t.Fatalf("%+v: Stock %d: %d, %d; want %d, %d", o.CartBook, n, got, f, least, e)
		}
	})
}

// TestAgainstAllTruths holds what is told of a plan against what all truths tell (P8.2, P8.3).
func TestAgainstAllTruths(t *testing.T) {
	eachTrueBook(3000, 6, func(r *rand.Rand, o *office) {
		plan := randomPlan(r, o.CartBook)
		first, isWorse := []int{0, 0}, false
		for day := range o.Rut.Days {
			for mile := range o.Rut.Miles {
				want := o.deep(plan, mile)[day]
				if s, e := cart.Deep(o.CartBook, plan, mile, day); s != want || e != api.OK {
					t.Fatalf("%+v: Deep of %d on %d by %v: %v, %d; want %v", o.CartBook, mile, day, plan, s, e, want)
				}
				if want.High > o.Rut.Act && !isWorse {
					first, isWorse = []int{day, mile}, true
				}
			}
		}
		if is, e := cart.Safe(o.CartBook, plan); is == isWorse || e != api.OK {
			t.Fatalf("%+v: Safe %v: %v, %d", o.CartBook, plan, is, e)
		}
		day, mile, e := cart.First(o.CartBook, plan)
		if (e == api.OK) != isWorse || (e == api.ErrNone) == isWorse || day != first[0] || mile != first[1] {
			t.Fatalf("%+v: First by %v: %d, %d, %d; want %v", o.CartBook, plan, day, mile, e, first)
		}
	})
}

// TestAgainstDefinition has sends of which one was changed, or that are drawn (P8.1 to P8.3).
func TestAgainstDefinition(t *testing.T) {
	eachRandomBook(5000, 6, func(r *rand.Rand, o *office) {
		b := o.CartBook
		plan := randomPlan(r, b)
		for i := range plan {
			if r.Intn(4) == 0 {
				plan[i] = send(r.Intn(len(b.Rut.Days)+2)-1, r.Intn(len(b.Rut.Miles)+2)-1, r.Intn(len(b.Depots)+2)-1)
			}
		}
		if r.Intn(3) == 0 {
			plan = append(plan, send(len(b.Rut.Days)-1, r.Intn(len(b.Rut.Miles)), 0))
		}
		want := isPlan(b, plan)
		all := ask(b, plan, question{})
		if a := all["May"]; a.is != want || a.e != api.OK {
			t.Fatalf("%+v: May %v: %+v", b, plan, a)
		}
		if a := all["Left"]; want && (a.n != b.Depots[0].Stock-sent(b, plan, 0) || a.e != api.OK) {
			t.Fatalf("%+v: Left by %v: %+v", b, plan, a)
		}
		for _, name := range []string{"Left", "Deep", "Safe", "First"} {
			if a := all[name]; want == (a.e == api.ErrCartAsk) || !want && !isNothingBut(a, api.ErrCartAsk) {
				t.Fatalf("%+v: %s by %v: %+v", b, name, plan, a)
			}
		}
		for _, name := range []string{"Deep", "Safe", "First", "Plan", "Must", "Stock"} {
			if a := all[name]; (a.e == api.ErrCartFalse) != (len(o.truths) == 0 && a.e != api.ErrCartAsk) || a.e == api.ErrCartFalse && !isNothingBut(a, api.ErrCartFalse) {
				t.Fatalf("%+v: %s by %v: %+v", b, name, plan, a)
			}
		}
	})
}

// TestNoMileIsWorse draws a truth: by a plan that is told to be safe no mile is worse in it (P8.8).
func TestNoMileIsWorse(t *testing.T) {
	eachTrueBook(3000, 6, func(r *rand.Rand, o *office) {
		truth := o.truths[r.Intn(len(o.truths))]
		told, _ := cart.Plan(o.CartBook)
		for _, plan := range [][]api.CartSend{randomPlan(r, o.CartBook), told} {
			is, e := cart.Safe(o.CartBook, plan)
			for mile := range o.Rut.Miles {
				for day := range o.Rut.Days {
					s, f := cart.Deep(o.CartBook, plan, mile, day)
					if deep := truth.depth(o.Rut, plan, mile, day); deep < s.Low || deep > s.High || is && deep > o.Rut.Act || e != api.OK || f != api.OK {
						t.Fatalf("%+v: by %v Deep of %d on %d %v, %d, Safe %v, %d; truly %d", o.CartBook, plan, mile, day, s, f, is, e, deep)
					}
				}
			}
		}
	})
}

// TestTheLeastStone has the plan that is told: it is safe, but not without one of its sends; nor is one that is drawn, and sends less (P8.9).
func TestTheLeastStone(t *testing.T) {
	eachTrueBook(3000, 6, func(r *rand.Rand, o *office) {
		plan, e := cart.Plan(o.CartBook)
		drawn := randomPlan(r, o.CartBook)
		if is, _ := cart.Safe(o.CartBook, drawn); is && (e != api.OK || stone(o.CartBook, drawn) < stone(o.CartBook, plan)) {
			t.Fatalf("%+v: Plan %v, %d; safe is %v", o.CartBook, plan, e, drawn)
		}
		if e != api.OK {
			return
		}
		if is, f := cart.Safe(o.CartBook, plan); !is || f != api.OK {
			t.Fatalf("%+v: Plan %v: %v, %d", o.CartBook, plan, is, f)
		}
		for i := range plan {
			if is, f := cart.Safe(o.CartBook, slices.Delete(slices.Clone(plan), i, i+1)); is || f != api.OK {
				t.Fatalf("%+v: Plan %v is safe without the send %d: %d", o.CartBook, plan, i, f)
			}
		}
	})
}

// TestOneSendMore compares a plan without sends with what layer 1 says, and one with the same without its last send (P8.10).
func TestOneSendMore(t *testing.T) {
	eachTrueBook(3000, 6, func(r *rand.Rand, o *office) {
		plan := randomPlan(r, o.CartBook)
		for mile := range o.Rut.Miles {
			for day := range o.Rut.Days {
				none, e := cart.Deep(o.CartBook, nil, mile, day)
				if s, f := rut.Deep(o.Rut, mile, day); s != none || e != api.OK || f != api.OK {
					t.Fatalf("%+v: Deep of %d on %d: %v, %d; layer 1: %v, %d", o.CartBook, mile, day, none, e, s, f)
				}
				if len(plan) == 0 {
					continue
				}
				last := plan[len(plan)-1]
				less, e := cart.Deep(o.CartBook, plan[:len(plan)-1], mile, day)
				more, f := cart.Deep(o.CartBook, plan, mile, day)
				isSame := mile != last.Mile || day < last.Day
				if isSame && more != less || more.Low > less.Low || more.High > less.High || e != api.OK || f != api.OK {
					t.Fatalf("%+v: Deep of %d on %d: %v, %d; by %v: %v, %d", o.CartBook, mile, day, less, e, plan, more, f)
				}
			}
		}
	})
}

// TestMoreStone lets a depot have more stone, or more carts (P8.11).
func TestMoreStone(t *testing.T) {
	eachTrueBook(3000, 6, func(r *rand.Rand, o *office) {
		plan, e := cart.Plan(o.CartBook)
		if _, f := cart.Must(o.CartBook); f == api.OK && e != api.ErrNone {
			t.Fatalf("%+v: Plan %v, %d, Must %d", o.CartBook, plan, e, f)
		}
		rich := cloneBook(o.CartBook)
		d := &rich.Depots[r.Intn(len(rich.Depots))]
		if r.Intn(2) == 0 {
			d.Stock += 1 + r.Intn(20)
		} else {
			d.Carts = min(api.CartCarts, d.Carts+1+r.Intn(20))
		}
		then, f := cart.Plan(rich)
		if e == api.OK && (f != api.OK || stone(rich, then) > stone(rich, plan)) {
			t.Fatalf("%+v: Plan %v; richer %+v: %v, %d", o.CartBook, plan, rich.Depots, then, f)
		}
	})
}

// TestTheLeastStock has a safe plan with the least stock, but none with less (P8.12).
func TestTheLeastStock(t *testing.T) {
	eachTrueBook(3000, 6, func(r *rand.Rand, o *office) {
		b := cloneBook(o.CartBook)
		for n := range b.Depots {
			kept := b.Depots[n].Stock
			least, e := cart.Stock(b, n)
			b.Depots[n].Stock = least
			if e != api.OK {
				b.Depots[n].Stock = api.CartStock
			}
			if plan, f := cart.Plan(b); e != f {
				t.Fatalf("%+v: Stock %d: %d, %d; with it %v, %d", o.CartBook, n, least, e, plan, f)
			}
			if b.Depots[n].Stock = least - 1; least > 0 {
				if plan, f := cart.Plan(b); f != api.ErrNone {
					t.Fatalf("%+v: Stock %d: %d; with less %v, %d", o.CartBook, n, least, plan, f)
				}
			}
			b.Depots[n].Stock = kept
		}
	})
}

func BenchmarkPlan(bench *testing.B) {
	b := full(act(240))
	for bench.Loop() {
		cart.Plan(b)
	}
}

func BenchmarkNoPlan(bench *testing.B) {
	b := crowded()
	for bench.Loop() {
		cart.Plan(b)
	}
}
