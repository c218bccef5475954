package cart_test

import (
	"math"
	"reflect"
	"slices"
	"testing"

	"macadam/api"
	"macadam/cart"
)

func to(low, high int) api.Span { return api.Span{Low: low, High: high} }

func just(n int) api.Span { return to(n, n) }

func depot(from, to, stock, carts int) api.CartDepot {
	return api.CartDepot{From: from, To: to, Stock: stock, Carts: carts}
}

func staff(mile, day, read, wrong int) api.RutStaff {
	return api.RutStaff{Mile: mile, Day: day, Read: read, Error: wrong}
}

func mend(mile, day int) api.RutMend { return api.RutMend{Mile: mile, Day: day} }

func send(day, mile, depot int) api.CartSend {
	return api.CartSend{Day: day, Mile: mile, Depot: depot}
}

// sends is a day, a mile and a depot, and so on.
func sends(l ...int) []api.CartSend {
	var all []api.CartSend
	for s := range slices.Chunk(l, 3) {
		all = append(all, send(s[0], s[1], s[2]))
	}
	return all
}

type change func(b *api.CartBook)

func changed(b api.CartBook, changes ...change) api.CartBook {
	for _, c := range changes {
		c(&b)
	}
	return b
}

// book is that of the chapter's examples, changed.
func book(changes ...change) api.CartBook {
	return changed(api.CartBook{
		Rut: api.RutBook{
			Miles: []api.Span{to(10, 12), just(8)},
			Wears: [3]api.Span{to(1, 2), to(0, 1), to(3, 4)},
			Days:  []api.RutDay{{Narrow: 2, Broad: 1}, {Narrow: 1, Broad: 2, Frost: api.RutPerhaps}, {Narrow: 3, Frost: api.RutSurely}},
			Mends: []api.RutMend{mend(1, 2)},
			Act:   20,
		},
		Needs:  []int{6, 4},
		Depots: []api.CartDepot{depot(0, 1, 9, 8), depot(1, 1, 5, 5)},
	}, changes...)
}

func needs(l ...int) change { return func(b *api.CartBook) { b.Needs = l } }

func depots(l ...api.CartDepot) change { return func(b *api.CartBook) { b.Depots = l } }

func stock(n, yards int) change { return func(b *api.CartBook) { b.Depots[n].Stock = yards } }

func carts(n, yards int) change { return func(b *api.CartBook) { b.Depots[n].Carts = yards } }

func reach(n, from, to int) change {
	return func(b *api.CartBook) { b.Depots[n].From, b.Depots[n].To = from, to }
}

func act(n int) change { return func(b *api.CartBook) { b.Rut.Act = n } }

func mends(l ...api.RutMend) change { return func(b *api.CartBook) { b.Rut.Mends = l } }

func staffs(l ...api.RutStaff) change { return func(b *api.CartBook) { b.Rut.Staffs = l } }

// poor, strict and torn are what the chapter calls so, measured is what the chapter on ruts calls so.
func poor() change { return stock(1, 3) }

func strict() change { return act(9) }

func measured() change { return staffs(staff(0, 1, 24, 0)) }

func torn() change { return staffs(staff(0, 1, 24, 0), staff(1, 1, 18, 1)) }

// road has miles whose ruts are so deep at first, and all become deeper by as much on a day; each needs 2, and the depots have 20 and 10, and as many carts.
func road(act int, starts, grows []int, changes ...change) api.CartBook {
	b := api.CartBook{Rut: api.RutBook{Wears: [3]api.Span{api.RutNarrow: just(1)}, Act: act}}
	for _, n := range starts {
		b.Rut.Miles = append(b.Rut.Miles, just(n))
		b.Needs = append(b.Needs, 2)
	}
	for _, n := range grows {
		b.Rut.Days = append(b.Rut.Days, api.RutDay{Narrow: n})
	}
	last := len(starts) - 1
	b.Depots = []api.CartDepot{depot(0, last, 20, 20), depot(0, last, 10, 10)}
	return changed(b, changes...)
}

// full has as much of everything as is allowed, at its upper limits.
func full(changes ...change) api.CartBook {
	b := api.CartBook{
		Rut: api.RutBook{
			Miles: slices.Repeat([]api.Span{to(57, 60)}, api.RutMiles),
			Wears: [3]api.Span{to(3, 4), to(3, 4), to(3, 4)},
			Days:  slices.Repeat([]api.RutDay{{Narrow: 9, Broad: 9, Frost: api.RutPerhaps}}, api.RutDays),
			Act:   600,
		},
		Needs:  slices.Repeat([]int{api.CartNeeds}, api.RutMiles),
		Depots: slices.Repeat([]api.CartDepot{depot(0, 3, api.CartStock, api.CartCarts)}, api.CartDepots),
	}
	return changed(b, changes...)
}

// answer is what a function returns; what does not apply to it is zero.
type answer struct {
	is   bool
	n, m int
	span api.Span
	plan []api.CartSend
	e    api.Errno
}

func isNothingBut(a answer, e api.Errno) bool {
	return !a.is && a.n == 0 && a.m == 0 && a.span == (api.Span{}) && len(a.plan) == 0 && a.e == e
}

// question is the numbers with which functions are asked.
type question struct{ depot, mile, day int }

// ask calls all functions but Check.
func ask(b api.CartBook, plan []api.CartSend, q question) map[string]answer {
	all := map[string]answer{}
	var a answer
	put := func(name string) { all[name], a = a, answer{} }
	a.is, a.e = cart.May(b, plan)
	put("May")
	a.n, a.e = cart.Left(b, plan, q.depot)
	put("Left")
	a.span, a.e = cart.Deep(b, plan, q.mile, q.day)
	put("Deep")
	a.is, a.e = cart.Safe(b, plan)
	put("Safe")
	a.n, a.m, a.e = cart.First(b, plan)
	put("First")
	a.plan, a.e = cart.Plan(b)
	put("Plan")
	a.n, a.e = cart.Must(b)
	put("Must")
	a.n, a.e = cart.Stock(b, q.depot)
	put("Stock")
	return all
}

func checkNumber(t *testing.T, what string, got int, e api.Errno, want int, f api.Errno) {
	t.Helper()
	if got != want || e != f {
		t.Errorf("%s: %d, %d; want %d, %d", what, got, e, want, f)
	}
}

func checkPlan(t *testing.T, what string, got []api.CartSend, e api.Errno, want []api.CartSend) {
	t.Helper()
	if !slices.Equal(got, want) || e != api.OK {
		t.Errorf("%s: %v, %d; want %v", what, got, e, want)
	}
}

// TestExamples has the examples of the chapter.
func TestExamples(t *testing.T) {
	two := sends(0, 1, 1, 1, 0, 0)
	for i, plan := range [][]api.CartSend{two, sends(0, 0, 1), sends(2, 1, 0), sends(0, 0, 0, 0, 1, 0), sends(1, 0, 0, 0, 1, 1)} {
		if is, e := cart.May(book(), plan); is != (i == 0) || e != api.OK {
			t.Errorf("May %v: %v, %d", plan, is, e)
		}
	}
	for depot, want := range []int{3, 1} {
		n, e := cart.Left(book(), two, depot)
		checkNumber(t, "Left", n, e, want, api.OK)
	}
	if s, e := cart.Deep(book(), sends(1, 0, 0), 0, 2); s != to(7, 18) || e != api.OK {
		t.Errorf("Deep of 0 on 2: %v, %d", s, e)
	}
	if s, e := cart.Deep(book(), sends(1, 0, 0), 1, 1); s != to(11, 21) || e != api.OK {
		t.Errorf("Deep of 1 on 1: %v, %d", s, e)
	}
	for i, plan := range [][]api.CartSend{two, sends(1, 0, 0)} {
		if is, e := cart.Safe(book(), plan); is != (i == 0) || e != api.OK {
			t.Errorf("Safe %v: %v, %d", plan, is, e)
		}
	}
	for mile, plan := range [][]api.CartSend{nil, sends(1, 0, 0)} {
		if n, m, e := cart.First(book(), plan); n != 1 || m != mile || e != api.OK {
			t.Errorf("First %v: %d, %d, %d", plan, n, m, e)
		}
	}
	plan, e := cart.Plan(book())
	checkPlan(t, "Plan", plan, e, two)
	for _, x := range []struct {
		what string
		a    answer
		want int
		e    api.Errno
	}{
		{"poor: Plan", ask(book(poor()), nil, question{})["Plan"], 0, api.ErrNone}, {"torn: Plan", ask(book(torn()), nil, question{})["Plan"], 0, api.ErrCartFalse},
		{"Must", ask(book(), nil, question{})["Must"], 0, api.ErrNone}, {"strict: Must", ask(book(strict()), nil, question{})["Must"], 0, api.OK},
		{"Stock 0", ask(book(), nil, question{})["Stock"], 6, api.OK}, {"Stock 1", ask(book(), nil, question{depot: 1})["Stock"], 4, api.OK}, {"poor: Stock 0", ask(book(poor()), nil, question{})["Stock"], 10, api.OK},
	} {
		if x.a.n != x.want || len(x.a.plan) > 0 || x.a.e != x.e {
			t.Errorf("%s: %+v; want %d, %d", x.what, x.a, x.want, x.e)
		}
	}
}

// TestExampleOfOverview has the eighth example of DOC.md.
func TestExampleOfOverview(t *testing.T) {
	b := road(10, []int{4}, []int{6, 1, 9})
	if n, m, e := cart.First(b, nil); n != 1 || m != 0 || e != api.OK {
		t.Errorf("First: %d, %d, %d", n, m, e)
	}
	for day := range 3 {
		if is, e := cart.Safe(b, sends(day, 0, 0)); is != (day == 1) || e != api.OK {
			t.Errorf("Safe on %d: %v, %d", day, is, e)
		}
	}
	plan, e := cart.Plan(b)
	checkPlan(t, "Plan", plan, e, sends(1, 0, 0))
}

// TestCheckLimits has books at the ends of each limit (P8.1).
func TestCheckLimits(t *testing.T) {
	for i, b := range []api.CartBook{
		book(), book(poor()), book(strict()), book(torn()), full(), full(act(0)), road(0, []int{0}, []int{0}),
		book(needs(1, 20)), book(needs(20, 1)), book(depots(depot(0, 0, 0, 0))), book(depots(depot(1, 1, 200, 50))), book(depots(depot(0, 1, 200, 0), depot(0, 1, 0, 50))),
		book(stock(0, 0)), book(stock(1, 200)), book(carts(0, 0)), book(carts(1, 50)), book(reach(0, 1, 1), reach(1, 0, 0)),
		book(mends(make([]api.RutMend, 6)...)), book(staffs(make([]api.RutStaff, 5)...)), book(act(600)),
		full(reach(0, 3, 3), reach(1, 0, 0)), road(5, []int{1, 2, 3}, []int{9}, needs(1, 2, 3)),
	} {
		if e := cart.Check(b); e != api.OK {
			t.Errorf("the valid book %d: %d", i, e)
		}
	}
}

// wrongBooks are books beyond the ends of each limit.
func wrongBooks() []api.CartBook {
	changes := []change{
		func(b *api.CartBook) { *b = api.CartBook{} },
		func(b *api.CartBook) { b.Rut = api.RutBook{} },
		act(-1), act(601), mends(make([]api.RutMend, 7)...), mends(mend(2, 0)), mends(mend(0, 3)), staffs(make([]api.RutStaff, 6)...), staffs(staff(0, 0, 0, 6)),
		func(b *api.CartBook) { b.Rut.Days = nil }, func(b *api.CartBook) { b.Rut.Wears[2] = to(4, 5) }, func(b *api.CartBook) { b.Rut.Miles = b.Rut.Miles[:1] },
		func(b *api.CartBook) { b.Rut.Miles = append(b.Rut.Miles, just(0)) },
		needs(), needs(6), needs(6, 4, 1), needs(make([]int, 2)...),
		depots(), depots(make([]api.CartDepot, 3)...), reach(0, 1, 0),
		stock(0, 201), carts(0, 51), stock(1, 201), carts(1, 51), needs(21, 4), needs(6, 21), needs(0, 4), needs(6, 0),
	}
	for _, n := range []int{-1, math.MinInt, math.MaxInt} {
		changes = append(changes, needs(n, 4), needs(6, n))
		for d := range 2 {
			changes = append(changes, stock(d, n), carts(d, n))
		}
	}
	for _, n := range []int{-1, 2, math.MinInt, math.MaxInt} {
		for d := range 2 {
			changes = append(changes, reach(d, n, 1), reach(d, 0, n), reach(d, n, n))
		}
	}
	var l []api.CartBook
	for _, c := range changes {
		l = append(l, book(c))
	}
	return l
}

// TestErrCart has wrong books: all functions return ErrCart first, and nothing else (P8.1, P1).
func TestErrCart(t *testing.T) {
	for i, b := range wrongBooks() {
		if e := cart.Check(b); e != api.ErrCart {
			t.Errorf("the wrong book %d: Check: %d", i, e)
		}
		for _, n := range []int{0, -1, math.MinInt, math.MaxInt} {
			for _, plan := range [][]api.CartSend{nil, sends(0, 0, 0), sends(n, n, n)} {
				for name, a := range ask(b, plan, question{n, n, n}) {
					if !isNothingBut(a, api.ErrCart) {
						t.Errorf("the wrong book %d: %s of %d, %v: %+v", i, name, n, plan, a)
					}
				}
			}
		}
	}
}

// noPlans are sends that are not a plan of the chapter's book.
func noPlans() [][]api.CartSend {
	l := [][]api.CartSend{
		// They are told in their order; to a mile one depot sends on a day.
		sends(1, 0, 0, 0, 1, 1), sends(0, 1, 1, 0, 0, 0), sends(0, 1, 1, 0, 1, 1), sends(0, 1, 0, 0, 1, 1), sends(0, 1, 1, 0, 1, 0), sends(2, 0, 0, 1, 1, 1), sends(0, 1, 1, 2, 0, 0, 1, 1, 0),
		// Miles that a depot does not reach, or that are mended on the day.
		sends(0, 0, 1), sends(2, 1, 0), sends(2, 1, 1), sends(1, 0, 0, 2, 1, 1),
		// More than the carts carry, or than there is.
		sends(0, 0, 0, 0, 1, 0), sends(0, 0, 0, 1, 1, 0), sends(0, 1, 1, 1, 1, 1), sends(0, 0, 0, 2, 0, 0), sends(0, 1, 0, 1, 0, 0), sends(0, 0, 0, 0, 1, 1, 1, 1, 1),
		slices.Repeat(sends(0, 1, 0), 1000),
	}
	for _, n := range []int{-1, 3, math.MinInt, math.MaxInt} {
		l = append(l, sends(n, 0, 0), sends(0, n, 0), sends(0, 1, n), sends(n, n, n), sends(0, 1, 1, n, 0, 0), sends(0, 1, 1, 1, n, 0), sends(0, 1, 1, 1, 0, n))
	}
	return append(l, sends(0, 2, 0), sends(0, 1, 2), sends(0, 0, 0, 0, 1, 1, 0, 2, 0))
}

// six sends to four miles on three days.
func six() []api.CartSend { return sends(0, 0, 0, 0, 3, 1, 2, 1, 0, 2, 2, 1, 5, 0, 1, 5, 1, 0) }

// TestMay has sends that are a plan, and sends that are not (P8.1).
func TestMay(t *testing.T) {
	for i, x := range []struct {
		b    api.CartBook
		plan []api.CartSend
		want bool
	}{
		{book(), nil, true}, {book(), sends(2, 0, 0), true}, {book(), sends(0, 0, 0, 0, 1, 1), true}, {book(), sends(0, 1, 0, 1, 1, 1), true}, {book(), sends(0, 1, 1, 1, 1, 0), true}, {book(), sends(0, 1, 0, 1, 1, 0), true},
		// What a depot has, and its carts: on the day, and on all days.
		{book(needs(9, 4), carts(0, 9)), sends(1, 0, 0), true}, {book(needs(9, 4)), sends(1, 0, 0), false}, {book(needs(8, 4)), sends(1, 0, 0), true}, {book(needs(10, 4), carts(0, 50)), sends(1, 0, 0), false},
		{book(stock(0, 10), carts(0, 10)), sends(0, 0, 0, 0, 1, 0), true}, {book(stock(0, 10), carts(0, 9)), sends(0, 0, 0, 0, 1, 0), false}, {book(stock(0, 10)), sends(0, 0, 0, 1, 1, 0), true}, {book(stock(0, 9), carts(0, 50)), sends(0, 0, 0, 0, 1, 0), false},
		{book(stock(0, 12), carts(0, 6)), sends(0, 0, 0, 2, 0, 0), true}, {book(stock(0, 11), carts(0, 6)), sends(0, 0, 0, 2, 0, 0), false}, {book(stock(0, 0)), nil, true}, {book(carts(0, 0)), sends(0, 1, 0), false}, {book(stock(1, 12)), sends(0, 1, 1, 1, 1, 1), true},
		{road(0, []int{0, 0}, []int{1, 1, 1}, carts(0, 2)), sends(0, 0, 0, 0, 1, 1, 1, 0, 1, 1, 1, 0, 2, 0, 0), true}, {road(0, []int{0, 0}, []int{1, 1, 1}, carts(0, 2)), sends(0, 0, 0, 0, 1, 1, 1, 0, 0, 1, 1, 0), false},
		// Days behind the last staff are open, whatever it reads, and wherever it stands in the list.
		{book(staffs(staff(0, 0, 15, 0))), sends(0, 0, 0), false}, {book(staffs(staff(0, 0, 15, 0))), sends(0, 1, 0), false}, {book(staffs(staff(0, 0, 15, 0))), sends(1, 0, 0), true}, {book(measured()), sends(1, 0, 0), false}, {book(measured()), sends(2, 0, 0), true},
		{book(staffs(staff(0, 2, 25, 0))), sends(2, 0, 0), false}, {book(staffs(staff(0, 2, 25, 0))), nil, true}, {book(torn()), sends(2, 0, 0), true}, {book(torn()), sends(1, 0, 0), false},
		{book(staffs(staff(0, 1, 20, 5), staff(0, 0, 15, 5))), sends(1, 0, 0), false}, {book(staffs(staff(0, 1, 20, 5), staff(0, 0, 15, 5))), sends(2, 0, 0), true},
		// A mile that is mended is not sent to on the same day; there are six mends in all.
		{book(mends()), sends(2, 1, 0), true}, {book(mends(mend(0, 2))), sends(2, 1, 0), true}, {book(mends(mend(1, 1))), sends(2, 1, 0), true}, {book(mends(mend(0, 0), mend(1, 2))), sends(0, 0, 0), false},
		{book(stock(0, 200), mends(make([]api.RutMend, 6)...)), sends(1, 0, 0), false}, {book(mends(make([]api.RutMend, 6)...)), nil, true}, {book(stock(0, 200), mends(make([]api.RutMend, 5)...)), sends(1, 0, 0), true}, {book(stock(0, 200), mends(make([]api.RutMend, 5)...)), sends(1, 0, 0, 2, 0, 0), false},
		{full(), six(), true}, {full(), append(sends(0, 0, 0, 0, 1, 0), six()[1:]...), false}, {full(mends(mend(3, 3))), six(), false}, {full(mends(mend(3, 3))), six()[:5], true}, {full(mends(mend(3, 3), mend(3, 3))), six()[:5], false},
		{full(), sends(0, 0, 0, 0, 1, 0), true}, {full(), sends(0, 0, 0, 0, 1, 0, 0, 2, 0), false}, {full(stock(0, 59)), sends(0, 0, 0, 1, 0, 0, 2, 0, 0), false}, {full(stock(0, 60)), sends(0, 0, 0, 1, 0, 0, 2, 0, 0), true},
	} {
		if is, e := cart.May(x.b, x.plan); is != x.want || e != api.OK {
			t.Errorf("May %d: %v, %d", i, is, e)
		}
	}
	for _, plan := range noPlans() {
		if is, e := cart.May(book(), plan); is || e != api.OK {
			t.Errorf("May %v: %v, %d", plan[:min(8, len(plan))], is, e)
		}
	}
}

// TestErrCartAsk has wrong questions, and sends that are not a plan: they come before ruts that cannot be so (P8.1 to P8.3, P8.6).
func TestErrCartAsk(t *testing.T) {
	hold := func(b api.CartBook, plan []api.CartSend, q question, names ...string) {
		t.Helper()
		all := ask(b, plan, q)
		for _, name := range names {
			if !isNothingBut(all[name], api.ErrCartAsk) {
				t.Errorf("%s of %+v: %+v", name, q, all[name])
			}
		}
	}
	for _, b := range []api.CartBook{book(), book(poor()), book(strict()), book(torn()), full(act(0))} {
		for _, n := range []int{-1, 6, math.MinInt, math.MaxInt} {
			hold(b, nil, question{depot: n}, "Left", "Stock")
			hold(b, nil, question{mile: n}, "Deep")
			hold(b, nil, question{day: n}, "Deep")
			hold(b, sends(n, n, n), question{n, n, n}, "Left", "Deep", "Safe", "First", "Stock")
		}
		hold(b, nil, question{depot: 2}, "Left", "Stock")
		hold(b, nil, question{mile: len(b.Rut.Miles)}, "Deep")
		hold(b, nil, question{day: len(b.Rut.Days)}, "Deep")
	}
	hold(book(depots(depot(0, 1, 9, 8))), nil, question{depot: 1}, "Left", "Stock")
	hold(book(torn()), sends(1, 0, 0), question{}, "Left", "Deep", "Safe", "First")
	for _, plan := range noPlans() {
		hold(book(), plan, question{}, "Left", "Deep", "Safe", "First")
		hold(book(), plan, question{depot: -1, mile: 2, day: 3}, "Left", "Deep", "Safe", "First")
	}
}

// TestErrCartFalse has ruts that cannot be as they were measured: sends are a plan all the same (P8.1 to P8.6).
func TestErrCartFalse(t *testing.T) {
	for i, b := range []api.CartBook{book(torn()), book(staffs(staff(0, 0, 18, 0))), book(torn(), act(600)), book(torn(), act(0)), book(torn(), poor()), book(staffs(staff(1, 0, 14, 0), staff(1, 0, 10, 0)))} {
		for _, plan := range [][]api.CartSend{nil, sends(2, 0, 0)} {
			all := ask(b, plan, question{})
			for _, name := range []string{"Deep", "Safe", "First", "Plan", "Must", "Stock"} {
				if !isNothingBut(all[name], api.ErrCartFalse) {
					t.Errorf("the torn book %d: %s: %+v", i, name, all[name])
				}
			}
			if a := all["May"]; !a.is || a.e != api.OK {
				t.Errorf("the torn book %d: May %v: %+v", i, plan, a)
			}
			if a := all["Left"]; a.n != 9-6*len(plan) || a.e != api.OK {
				t.Errorf("the torn book %d: Left by %v: %+v", i, plan, a)
			}
		}
	}
}

// TestLeft has depots that send nothing, something, and all that they have (P8.1).
func TestLeft(t *testing.T) {
	for i, x := range []struct {
		b    api.CartBook
		plan []api.CartSend
		want []int
	}{
		{book(), nil, []int{9, 5}}, {book(), sends(0, 1, 0), []int{5, 5}}, {book(), sends(0, 1, 1), []int{9, 1}}, {book(), sends(0, 1, 0, 1, 1, 0), []int{1, 5}}, {book(), sends(0, 0, 0, 0, 1, 1), []int{3, 1}},
		{book(stock(0, 10)), sends(0, 1, 0, 2, 0, 0), []int{0, 5}}, {book(depots(depot(0, 1, 7, 6))), sends(1, 0, 0), []int{1}}, {book(torn()), sends(2, 0, 0), []int{3, 5}}, {book(stock(1, 0)), nil, []int{9, 0}},
		{full(), six(), []int{140, 140}}, {full(needs(1, 2, 3, 4)), six(), []int{195, 192}},
	} {
		for n, want := range x.want {
			left, e := cart.Left(x.b, x.plan, n)
			checkNumber(t, "Left", left, e, want, api.OK)
			if t.Failed() {
				t.Fatalf("Left %d of %d", i, n)
			}
		}
	}
}

// TestDeep has miles that are sent to, mended besides, measured, or neither (P8.2, P8.10).
func TestDeep(t *testing.T) {
	for i, x := range []struct {
		b    api.CartBook
		plan []api.CartSend
		mile int
		want []api.Span
	}{
		{book(), nil, 0, []api.Span{to(12, 17), to(13, 25), to(19, 35)}}, {book(), nil, 1, []api.Span{to(10, 13), to(11, 21), to(6, 10)}},
		{book(), sends(0, 0, 0), 0, []api.Span{to(2, 5), to(3, 13), to(9, 23)}}, {book(), sends(1, 0, 0), 0, []api.Span{to(12, 17), to(1, 8), to(7, 18)}}, {book(), sends(2, 0, 0), 0, []api.Span{to(12, 17), to(13, 25), to(6, 10)}},
		{book(), sends(0, 0, 0), 1, []api.Span{to(10, 13), to(11, 21), to(6, 10)}}, {book(), sends(0, 1, 1), 1, []api.Span{to(2, 5), to(3, 13), to(6, 10)}}, {book(), sends(0, 1, 0, 1, 1, 1), 1, []api.Span{to(2, 5), to(1, 8), to(6, 10)}},
		{book(measured()), nil, 0, []api.Span{to(16, 17), just(24), to(33, 34)}}, {book(measured()), sends(2, 0, 0), 0, []api.Span{to(16, 17), just(24), to(9, 10)}}, {book(measured()), sends(2, 0, 0), 1, []api.Span{just(13), to(20, 21), to(9, 10)}},
		{road(9, []int{3, 60}, []int{1, 2, 3, 4, 5, 6}), sends(0, 1, 0, 2, 0, 0, 4, 0, 1), 0, []api.Span{just(4), just(6), just(3), just(7), just(5), just(11)}},
		{road(9, []int{3, 60}, []int{1, 2, 3, 4, 5, 6}, mends(mend(0, 3), mend(0, 5))), sends(0, 1, 0, 2, 0, 0, 4, 0, 1), 0, []api.Span{just(4), just(6), just(3), just(4), just(5), just(6)}},
	} {
		for day, want := range x.want {
			if s, e := cart.Deep(x.b, x.plan, x.mile, day); s != want || e != api.OK {
				t.Errorf("Deep %d on %d: %v, %d; want %v", i, day, s, e, want)
			}
		}
	}
}

// TestFirst has plans that are safe, and plans that are not (P8.3).
func TestFirst(t *testing.T) {
	for i, x := range []struct {
		b         api.CartBook
		plan      []api.CartSend
		day, mile int
		e         api.Errno
	}{
		{book(), nil, 1, 0, api.OK}, {book(), sends(1, 0, 0), 1, 1, api.OK}, {book(), sends(0, 0, 0, 0, 1, 1), 2, 0, api.OK}, {book(), sends(1, 1, 0), 1, 0, api.OK}, {book(), sends(0, 1, 1, 1, 0, 0), 0, 0, api.ErrNone}, {book(), sends(0, 1, 1, 2, 0, 0), 1, 0, api.OK}, {book(carts(0, 50), stock(0, 50)), sends(1, 0, 0, 1, 1, 0), 0, 0, api.ErrNone},
		// As deep as the act allows is not worse; only the greatest that may be counts.
		{book(act(35)), nil, 0, 0, api.ErrNone}, {book(act(34)), nil, 2, 0, api.OK}, {book(act(16)), nil, 0, 0, api.OK}, {book(act(18)), sends(0, 1, 1, 1, 0, 0), 0, 0, api.ErrNone}, {book(act(17)), sends(0, 1, 1, 1, 0, 0), 2, 0, api.OK}, {book(strict()), sends(0, 0, 0), 0, 1, api.OK},
		// Days that are not open count as well.
		{book(measured()), sends(2, 0, 0), 1, 0, api.OK}, {book(measured(), act(24)), sends(2, 0, 0), 0, 0, api.ErrNone}, {book(measured(), act(23)), sends(2, 0, 0), 1, 0, api.OK}, {book(measured(), act(24)), nil, 2, 0, api.OK},
		// The first day comes before the first mile.
		{road(9, []int{2, 6}, []int{3, 3, 3}), nil, 1, 1, api.OK}, {road(9, []int{6, 6}, []int{3, 3, 3}), nil, 1, 0, api.OK}, {road(9, []int{6, 6}, []int{3, 3, 3}), sends(1, 0, 0), 1, 1, api.OK}, {road(9, []int{6, 2}, []int{3, 3, 3}), sends(0, 0, 0), 2, 1, api.OK},
		{full(), nil, 0, 0, api.ErrNone}, {full(act(515)), nil, 5, 0, api.OK}, {full(act(516)), nil, 0, 0, api.ErrNone}, {full(act(303)), six(), 3, 0, api.OK}, {full(act(304)), six(), 4, 0, api.OK},
	} {
		day, mile, e := cart.First(x.b, x.plan)
		if day != x.day || mile != x.mile || e != x.e {
			t.Errorf("First %d: %d, %d, %d; want %d, %d, %d", i, day, mile, e, x.day, x.mile, x.e)
		}
		if is, e := cart.Safe(x.b, x.plan); is != (x.e == api.ErrNone) || e != api.OK {
			t.Errorf("Safe %d: %v, %d", i, is, e)
		}
	}
}

// TestPlan has books with a safe plan: the least stock of both depots is told besides (P8.4 to P8.6).
func TestPlan(t *testing.T) {
	one, two, even := []int{0}, []int{0, 0}, []int{5, 5, 5}
	for i, x := range []struct {
		b      api.CartBook
		want   []api.CartSend
		stocks []int
	}{
		{book(), sends(0, 1, 1, 1, 0, 0), []int{6, 4}}, {book(act(35)), nil, []int{0, 0}}, {book(act(25)), sends(0, 0, 0), []int{6, 0}}, {book(act(17), stock(0, 50)), sends(0, 0, 0, 0, 1, 1, 2, 0, 0), []int{12, 0}},
		{book(stock(0, 10)), sends(0, 1, 0, 1, 0, 0), []int{6, 0}}, {book(measured(), act(24)), sends(2, 0, 0), []int{6, 0}}, {book(stock(0, 10), carts(0, 10)), sends(0, 1, 0, 1, 0, 0), []int{6, 0}},
		// The first day on which once is enough; the first depot that reaches the mile, and has enough stone and carts.
		{road(20, one, even), nil, []int{0, 0}}, {road(16, []int{5}, even), sends(0, 0, 0), []int{0, 0}}, {road(12, one, even), sends(1, 0, 0), []int{0, 0}}, {road(9, one, even), sends(1, 0, 0, 2, 0, 0), []int{0, 0}}, {road(9, []int{5}, even), sends(0, 0, 0, 1, 0, 0, 2, 0, 0), []int{0, 0}},
		{road(12, one, even, carts(0, 1)), sends(1, 0, 1), []int{0, 2}}, {road(12, one, even, stock(0, 1)), sends(1, 0, 1), []int{0, 2}}, {road(9, one, even, stock(0, 3)), sends(1, 0, 0, 2, 0, 1), []int{0, 2}}, {road(9, one, even, stock(0, 3), stock(1, 3)), sends(1, 0, 0, 2, 0, 1), []int{2, 2}},
		{road(12, two, even, reach(0, 1, 1)), sends(1, 0, 1, 1, 1, 0), []int{0, 2}},
		// One mile a day, or a depot: the first day comes before the first mile, and this before the first depot.
		{road(12, two, even, carts(0, 2), carts(1, 0)), sends(1, 0, 0, 2, 1, 0), []int{4, 0}}, {road(12, two, even, carts(0, 2), carts(1, 2)), sends(1, 0, 0, 1, 1, 1), []int{0, 0}}, {road(12, []int{0, 5}, even, carts(0, 2), carts(1, 0)), sends(1, 1, 0, 2, 0, 0), nil},
		{road(12, []int{0, 2}, even, carts(0, 2), carts(1, 0)), sends(1, 0, 0, 2, 1, 0), nil}, {road(12, []int{0, 3}, even, carts(0, 2), carts(1, 0)), sends(1, 1, 0, 2, 0, 0), nil}, {road(12, []int{3, 3}, even, carts(0, 2), carts(1, 0)), sends(0, 0, 0, 1, 1, 0, 2, 0, 0), []int{6}},
		// The least stone comes before the fewest sends: with four the mile 0 is sent to twice.
		{road(11, []int{0, 0, 0}, []int{4, 4, 4, 4}, needs(10, 1, 1), depots(depot(0, 2, 200, 10))), sends(1, 1, 0, 1, 2, 0, 2, 0, 0, 3, 1, 0, 3, 2, 0), []int{14}},
		{road(11, []int{0, 0, 0}, []int{4, 4, 4, 4}, needs(2, 1, 1), depots(depot(0, 2, 200, 2))), sends(1, 0, 0, 2, 1, 0, 2, 2, 0, 3, 0, 0), []int{6}},
	} {
		plan, e := cart.Plan(x.b)
		checkPlan(t, "Plan", plan, e, x.want)
		n, e := cart.Must(x.b)
		checkNumber(t, "Must", n, e, 0, api.ErrNone)
		for depot, want := range x.stocks {
			n, e := cart.Stock(x.b, depot)
			checkNumber(t, "Stock", n, e, want, api.OK)
		}
		if t.Failed() {
			t.Fatalf("Plan %d", i)
		}
	}
}

// TestNoPlan has books without a safe plan: the first mile that cannot be kept, and the least stock of both depots (P8.4 to P8.6).
func TestNoPlan(t *testing.T) {
	for i, x := range []struct {
		b      api.CartBook
		must   int
		e      api.Errno
		stocks []int
	}{
		// With more stone there would be a plan.
		{book(poor()), 0, api.ErrNone, []int{10, 4}}, {book(stock(0, 0)), 0, api.OK, []int{6, none}}, {book(stock(0, 5), stock(1, 0)), 0, api.OK, []int{10, none}}, {road(9, []int{5}, []int{5, 5, 5}, stock(0, 3), stock(1, 2)), 0, api.OK, []int{4, 4}},
		{road(12, []int{3, 3}, []int{5, 5, 5}, carts(0, 2), carts(1, 0), stock(0, 4)), 0, api.ErrNone, []int{6, none}},
		{book(poor(), reach(0, 0, 0)), 1, api.OK, []int{none, 4}}, {book(stock(0, 5), reach(0, 0, 0)), 0, api.OK, []int{6, none}},
		// With no more would there be one.
		{book(strict()), 0, api.OK, nil}, {book(act(12)), 0, api.OK, nil}, {book(carts(0, 5)), 0, api.OK, nil}, {book(measured()), 0, api.OK, nil}, {book(depots(depot(1, 1, 200, 50))), 0, api.OK, nil}, {book(depots(depot(0, 0, 200, 50))), 1, api.OK, nil},
		{book(staffs(staff(1, 1, 21, 0)), act(23)), 0, api.OK, nil}, {book(staffs(staff(1, 1, 21, 0)), mends(mend(0, 1), mend(1, 2))), 1, api.OK, nil}, {book(staffs(staff(0, 2, 25, 0)), act(24)), 0, api.OK, nil},
		{book(mends(slices.Repeat([]api.RutMend{mend(1, 2)}, 6)...)), 0, api.OK, nil}, {book(mends(slices.Repeat([]api.RutMend{mend(0, 1)}, 6)...)), 1, api.OK, nil}, {book(mends(slices.Repeat([]api.RutMend{mend(1, 2)}, 5)...)), 0, api.ErrNone, nil},
		{full(act(75)), 0, api.OK, nil}, {full(act(76)), 0, api.ErrNone, nil}, {full(act(152)), 0, api.ErrNone, nil}, {crowded(), 0, api.ErrNone, nil},
		{road(12, []int{0, 3}, []int{5, 5, 5}, carts(0, 2), carts(1, 0), reach(0, 0, 0)), 1, api.OK, nil},
	} {
		all := ask(x.b, nil, question{})
		if a := all["Plan"]; !isNothingBut(a, api.ErrNone) {
			t.Errorf("Plan %d: %+v", i, a)
		}
		if a := all["Must"]; a.n != x.must || a.e != x.e {
			t.Errorf("Must %d: %d, %d; want %d, %d", i, a.n, a.e, x.must, x.e)
		}
		for n := range x.b.Depots {
			want, f := 0, api.ErrNone
			if x.stocks != nil && x.stocks[n] != none {
				want, f = x.stocks[n], api.OK
			}
			if least, e := cart.Stock(x.b, n); least != want || e != f {
				t.Errorf("Stock %d of %d: %d, %d; want %d, %d", i, n, least, e, want, f)
			}
		}
	}
}

// none is the least stock of a depot with which there is no safe plan, whatever it has.
const none = -1

// crowded has four miles that need seven sends.
func crowded() api.CartBook {
	grows := func(b *api.CartBook) { b.Rut.Wears[api.RutNarrow] = just(2) }
	return road(34, []int{14, 1, 24, 17}, []int{2, 1, 1, 8, 2, 9}, grows, needs(7, 1, 3, 14), depots(depot(0, 3, 171, 39), depot(0, 3, 72, 44)))
}

// TestArguments asks with lists behind whose ends the caller keeps something (P8.7).
func TestArguments(t *testing.T) {
	all, plan := full(act(260), mends(mend(3, 1), mend(0, 0))), six()[:4]
	all.Rut.Staffs = []api.RutStaff{staff(0, 5, 600, 0)}
	for count := range len(plan) + 1 {
		kept, keptPlan := cloneBook(all), slices.Clone(plan)
		b := kept
		b.Rut.Miles, b.Rut.Days, b.Rut.Mends, b.Rut.Staffs = b.Rut.Miles[:3], b.Rut.Days[:3], b.Rut.Mends[:1], b.Rut.Staffs[:0]
		b.Rut.Mends[0].Mile, all.Rut.Mends[0].Mile = 2, 2
		b.Needs, b.Depots = b.Needs[:3], b.Depots[:1]
		b.Depots[0].To, all.Depots[0].To = 2, 2
		for n := range 3 {
			for name, a := range ask(b, keptPlan[:count], question{0, n, n}) {
				if a.e != api.OK && a.e != api.ErrNone && a.e != api.ErrCartAsk {
					t.Errorf("%s with %d sends: %+v", name, count, a)
				}
			}
		}
		if !reflect.DeepEqual(kept, all) || !slices.Equal(keptPlan, plan) {
			t.Errorf("with %d sends: %+v, %v", count, kept, keptPlan)
		}
	}
}

// TestResults writes into results, and behind their ends, and into arguments afterwards: neither changes another result (P8.7, P2).
func TestResults(t *testing.T) {
	b, plan := book(), sends(0, 1, 1, 1, 0, 0)
	before := ask(b, plan, question{0, 0, 1})
	for _, a := range ask(b, plan, question{0, 0, 1}) {
		clear(a.plan[:cap(a.plan)])
		_ = append(a.plan, send(9, 9, 9))
	}
	if again := ask(b, plan, question{0, 0, 1}); !reflect.DeepEqual(before, again) {
		t.Errorf("once more: %+v; first %+v", again, before)
	}
	want := ask(book(), sends(0, 1, 1, 1, 0, 0), question{0, 0, 1})
	clear(plan)
	clear(b.Rut.Miles)
	clear(b.Needs)
	clear(b.Depots)
	ask(full(act(200)), nil, question{})
	if !reflect.DeepEqual(before, want) {
		t.Errorf("behind another book: %+v; first %+v", before, want)
	}
}

// TestNilAndEmpty has nil lists and empty ones (R3).
func TestNilAndEmpty(t *testing.T) {
	empty := book(mends([]api.RutMend{}...), staffs([]api.RutStaff{}...))
	if one, two := ask(book(mends()), nil, question{}), ask(empty, []api.CartSend{}, question{}); !reflect.DeepEqual(one, two) {
		t.Errorf("nil %+v; empty %+v", one, two)
	}
	for _, b := range []api.CartBook{book(needs()), book(needs([]int{}...)), book(depots()), book(depots([]api.CartDepot{}...))} {
		if e := cart.Check(b); e != api.ErrCart {
			t.Errorf("%+v: %d", b, e)
		}
	}
}
