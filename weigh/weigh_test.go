package weigh_test

import (
	"math"
	"reflect"
	"slices"
	"testing"

	"macadam/api"
	"macadam/weigh"
)

func to(low, high int) api.Span { return api.Span{Low: low, High: high} }

func just(n int) api.Span { return to(n, n) }

func pass(wagon int, load api.Span, shown, wrong, paid int) api.WeighPass {
	return api.WeighPass{Wagon: wagon, Load: load, Shown: shown, Error: wrong, Paid: paid}
}

// empty is a pass of a wagon without a load, rightly read.
func empty(wagon, shown int) api.WeighPass { return pass(wagon, just(0), shown, 0, 0) }

func wagon(tare api.Span, wheel int) api.WeighWagon {
	return api.WeighWagon{Tare: tare, Wheel: wheel}
}

type change func(b *api.WeighBook)

// book is that of the chapter's examples, changed.
func book(changes ...change) api.WeighBook {
	b := api.WeighBook{
		Off:    to(0, 2),
		Wagons: []api.WeighWagon{wagon(to(20, 22), api.WeighNarrow), wagon(to(30, 31), api.WeighBroad)},
		Passes: []api.WeighPass{empty(0, 22), pass(0, to(10, 12), 33, 1, 40), pass(1, to(5, 6), 36, 0, 10)},
		Tolls:  [3]api.WeighToll{{Free: 20, Base: 4, Rate: 2}, {Free: 30, Base: 3, Rate: 1}, {Free: 40, Base: 2, Rate: 1}},
	}
	for _, c := range changes {
		c(&b)
	}
	return b
}

func off(low, high int) change { return func(b *api.WeighBook) { b.Off = to(low, high) } }

func wagons(l ...api.WeighWagon) change { return func(b *api.WeighBook) { b.Wagons = l } }

func passes(l ...api.WeighPass) change { return func(b *api.WeighBook) { b.Passes = l } }

func more(l ...api.WeighPass) change {
	return func(b *api.WeighBook) { b.Passes = append(b.Passes, l...) }
}

func toll(wheel, free, base, rate int) change {
	return func(b *api.WeighBook) { b.Tolls[wheel] = api.WeighToll{Free: free, Base: base, Rate: rate} }
}

func torn() change { return more(empty(0, 23)) }

// full has as much of everything as is allowed, at its upper limits.
func full(changes ...change) api.WeighBook {
	b := api.WeighBook{
		Off:    to(5, 9),
		Wagons: slices.Repeat([]api.WeighWagon{wagon(to(57, 60), api.WeighBroad)}, api.WeighWagons),
		Tolls:  [3]api.WeighToll{{Free: 120, Base: 99, Rate: 9}, {Free: 120, Base: 99, Rate: 9}, {Free: 0, Base: 99, Rate: 9}},
	}
	for n := range api.WeighPasses {
		b.Passes = append(b.Passes, pass(n%api.WeighWagons, to(57, 60), 124, 5, 999))
	}
	for _, c := range changes {
		c(&b)
	}
	return b
}

// answer is what a function returns; what does not apply to it is zero.
type answer struct {
	span api.Span
	n    int
	is   bool
	list []int
	e    api.Errno
}

func isNothingBut(a answer, e api.Errno) bool {
	return len(a.list) == 0 && a.span == (api.Span{}) && a.n == 0 && !a.is && a.e == e
}

// ask calls all functions but Check; those that ask are asked with these numbers.
func ask(b api.WeighBook, wagon, pass int, further api.WeighPass) map[string]answer {
	all := map[string]answer{}
	var a answer
	put := func(name string) { all[name], a = a, answer{} }
	a.is, a.e = weigh.Right(b)
	put("Right")
	a.span, a.e = weigh.Off(b)
	put("Off")
	a.span, a.e = weigh.Tare(b, wagon)
	put("Tare")
	a.span, a.e = weigh.Weighs(b, pass)
	put("Weighs")
	a.span, a.e = weigh.Pays(b, pass)
	put("Pays")
	a.span, a.e = weigh.Back(b, pass)
	put("Back")
	a.list, a.e = weigh.Over(b)
	put("Over")
	a.is, a.e = weigh.Fits(b, further)
	put("Fits")
	a.list, a.e = weigh.Wrong(b)
	put("Wrong")
	a.n, a.e = weigh.Again(b)
	put("Again")
	return all
}

func checkSpan(t *testing.T, what string, got api.Span, e api.Errno, want api.Span) {
	t.Helper()
	if got != want || e != api.OK {
		t.Errorf("%s: %v, %d; want %v", what, got, e, want)
	}
}

func checkNumber(t *testing.T, what string, got int, e api.Errno, want int, wantE api.Errno) {
	t.Helper()
	if got != want || e != wantE {
		t.Errorf("%s: %d, %d; want %d, %d", what, got, e, want, wantE)
	}
}

func checkList(t *testing.T, what string, got []int, e api.Errno, want ...int) {
	t.Helper()
	if !slices.Equal(got, want) || e != api.OK {
		t.Errorf("%s: %v, %d; want %v", what, got, e, want)
	}
}

func checkIs(t *testing.T, what string, got bool, e api.Errno, want bool) {
	t.Helper()
	if got != want || e != api.OK {
		t.Errorf("%s: %v, %d; want %v", what, got, e, want)
	}
}

// TestExamples has the examples of the chapter.
func TestExamples(t *testing.T) {
	s, e := weigh.Off(book())
	checkSpan(t, "Off", s, e, to(0, 1))
	for n, want := range []api.Span{to(21, 22), to(30, 31)} {
		s, e := weigh.Tare(book(), n)
		checkSpan(t, "Tare", s, e, want)
	}
	for n, x := range []struct{ weighs, pays, back api.Span }{
		{to(21, 22), to(6, 8), just(0)}, {to(31, 34), to(26, 32), to(8, 14)}, {to(35, 36), just(2), just(8)},
	} {
		s, e := weigh.Weighs(book(), n)
		checkSpan(t, "Weighs", s, e, x.weighs)
		s, e = weigh.Pays(book(), n)
		checkSpan(t, "Pays", s, e, x.pays)
		s, e = weigh.Back(book(), n)
		checkSpan(t, "Back", s, e, x.back)
	}
	l, e := weigh.Over(book())
	checkList(t, "Over", l, e, 1, 2)
	is, e := weigh.Fits(book(), empty(0, 24))
	checkIs(t, "Fits 24", is, e, false)
	is, e = weigh.Fits(book(), pass(0, just(0), 23, 1, 0))
	checkIs(t, "Fits 23", is, e, true)
	is, e = weigh.Right(book(torn()))
	checkIs(t, "torn: Right", is, e, false)
	l, e = weigh.Wrong(book(torn()))
	checkList(t, "torn: Wrong", l, e, 0)
	if s, e := weigh.Off(book(torn())); s != (api.Span{}) || e != api.ErrWeighFalse {
		t.Errorf("torn: Off: %v, %d", s, e)
	}
	n, e := weigh.Again(book())
	checkNumber(t, "Again", n, e, 0, api.OK)
}

// TestExampleOfOverview has the second example of DOC.md.
func TestExampleOfOverview(t *testing.T) {
	s, e := weigh.Weighs(book(wagons(wagon(to(19, 22), 0)), passes(empty(0, 22))), 0)
	checkSpan(t, "Weighs", s, e, to(20, 22))
}

// TestCheckLimits has books at the ends of each limit (P2.1).
func TestCheckLimits(t *testing.T) {
	light := wagon(just(1), api.WeighNarrow)
	for i, b := range []api.WeighBook{
		book(), book(torn()), full(), book(passes()), {Wagons: []api.WeighWagon{light}},
		book(off(-9, -9)), book(off(-9, -5)), book(off(9, 9)), book(off(5, 9)), book(off(-2, 2)),
		book(wagons(light, light, light, light)),
		book(wagons(wagon(to(1, 4), api.WeighBroad), wagon(to(57, 60), api.WeighMiddle))), book(wagons(light, wagon(just(60), 0))),
		book(more(slices.Repeat([]api.WeighPass{empty(1, 0)}, 3)...)),
		book(more(pass(0, to(0, 3), 0, 0, 0), pass(1, to(57, 60), 150, 5, 999), pass(0, just(60), 0, 5, 0))),
		book(toll(0, 0, 0, 0), toll(1, 120, 99, 9), toll(2, 0, 99, 0)), book(toll(0, 120, 99, 9), toll(1, 0, 0, 0), toll(2, 120, 99, 9)),
	} {
		if e := weigh.Check(b); e != api.OK {
			t.Errorf("the valid book %d: %d", i, e)
		}
	}
}

// wrongPasses are passes beyond the ends of each limit, of a book with two wagons.
func wrongPasses() []api.WeighPass {
	var l []api.WeighPass
	for _, n := range []int{-1, math.MinInt, math.MaxInt} {
		l = append(l, pass(n, just(0), 0, 0, 0), pass(0, just(0), n, 0, 0), pass(0, just(0), 0, n, 0), pass(0, just(0), 0, 0, n))
	}
	for _, s := range []api.Span{to(-1, 0), just(-1), just(61), to(60, 61), to(0, 4), to(56, 60), to(1, 0), to(math.MinInt, math.MaxInt), to(math.MaxInt, math.MinInt), to(0, math.MaxInt), to(math.MinInt, 0)} {
		l = append(l, pass(0, s, 0, 0, 0))
	}
	return append(l, empty(2, 0), empty(0, 151), pass(0, just(0), 0, 6, 0), pass(0, just(0), 0, 0, 1000))
}

// wrongBooks are books beyond the ends of each limit.
func wrongBooks() []api.WeighBook {
	changes := []change{
		func(b *api.WeighBook) { *b = api.WeighBook{} },
		func(b *api.WeighBook) { b.Wagons, b.Passes = nil, nil },
		wagons(slices.Repeat([]api.WeighWagon{wagon(just(1), 0)}, 5)...), passes(slices.Repeat([]api.WeighPass{empty(0, 0)}, 7)...),
		off(-10, -9), off(-10, -10), off(9, 10), off(10, 10), off(-2, 3), off(-9, 9), off(1, 0),
		off(math.MinInt, math.MaxInt), off(math.MaxInt, math.MinInt), off(math.MinInt, 0), off(0, math.MaxInt),
	}
	for _, s := range []api.Span{{}, to(0, 1), just(-1), just(61), to(60, 61), to(20, 24), to(22, 20), to(math.MinInt, math.MaxInt), to(math.MaxInt, math.MinInt), to(1, math.MaxInt), to(math.MinInt, 1)} {
		changes = append(changes, wagons(wagon(s, 0), wagon(just(1), 0)), wagons(wagon(just(1), 0), wagon(s, 0)))
	}
	for _, n := range []int{-1, 3, math.MinInt, math.MaxInt} {
		changes = append(changes, wagons(wagon(just(1), n), wagon(just(1), 0)), wagons(wagon(just(1), 0), wagon(just(1), n)))
	}
	for _, p := range wrongPasses() {
		changes = append(changes, more(p), passes(p, empty(0, 22)))
	}
	for wheel := range 3 {
		for _, n := range []int{-1, math.MinInt, math.MaxInt} {
			changes = append(changes, toll(wheel, n, 0, 0), toll(wheel, 0, n, 0), toll(wheel, 0, 0, n))
		}
		changes = append(changes, toll(wheel, 121, 0, 0), toll(wheel, 0, 100, 0), toll(wheel, 0, 0, 10))
	}
	var l []api.WeighBook
	for _, c := range changes {
		l = append(l, book(c))
	}
	return l
}

// TestErrWeigh has wrong books: all functions return ErrWeigh first, and nothing else (P2.1, P1).
func TestErrWeigh(t *testing.T) {
	for i, b := range wrongBooks() {
		if e := weigh.Check(b); e != api.ErrWeigh {
			t.Errorf("the wrong book %d: Check: %d", i, e)
		}
		for _, n := range []int{0, -1, math.MinInt, math.MaxInt} {
			for name, a := range ask(b, n, n, pass(n, just(n), n, n, n)) {
				if !isNothingBut(a, api.ErrWeigh) {
					t.Errorf("the wrong book %d: %s of %d: %+v", i, name, n, a)
				}
			}
		}
	}
}

// TestErrWeighAsk has wrong questions: they come before a book that cannot be true (P2.2 to P2.4, P2.6).
func TestErrWeighAsk(t *testing.T) {
	for _, b := range []api.WeighBook{book(), book(torn())} {
		for _, n := range []int{-1, math.MinInt, math.MaxInt} {
			all := ask(b, n, n, empty(n, 0))
			for _, name := range []string{"Tare", "Weighs", "Pays", "Back", "Fits"} {
				if !isNothingBut(all[name], api.ErrWeighAsk) {
					t.Errorf("%s of %d: %+v", name, n, all[name])
				}
			}
		}
		all := ask(b, len(b.Wagons), len(b.Passes), empty(0, 0))
		for _, name := range []string{"Tare", "Weighs", "Pays", "Back"} {
			if !isNothingBut(all[name], api.ErrWeighAsk) {
				t.Errorf("%s of one too many: %+v", name, all[name])
			}
		}
		for _, p := range wrongPasses() {
			if is, e := weigh.Fits(b, p); is || e != api.ErrWeighAsk {
				t.Errorf("Fits %v: %v, %d", p, is, e)
			}
		}
	}
	if _, e := weigh.Weighs(book(passes()), 0); e != api.ErrWeighAsk {
		t.Errorf("Weighs without passes: %d", e)
	}
}

// TestErrWeighFalse has books that cannot be true (P2.1 to P2.8).
func TestErrWeighFalse(t *testing.T) {
	for i, b := range []api.WeighBook{
		book(torn()), book(passes(empty(0, 19))), book(passes(empty(0, 25))), book(passes(pass(0, to(10, 12), 37, 0, 0))),
		book(passes(pass(0, to(10, 12), 29, 0, 0))), book(passes(pass(1, just(0), 35, 1, 0))), book(passes(empty(0, 22), empty(1, 33), empty(0, 20))),
	} {
		all := ask(b, 0, 0, empty(0, 22))
		for _, name := range []string{"Off", "Tare", "Weighs", "Pays", "Back", "Over", "Fits", "Again"} {
			if !isNothingBut(all[name], api.ErrWeighFalse) {
				t.Errorf("the torn book %d: %s: %+v", i, name, all[name])
			}
		}
		if a := all["Right"]; a.is || a.e != api.OK {
			t.Errorf("the torn book %d: Right: %+v", i, a)
		}
		if a := all["Wrong"]; len(a.list) == 0 || a.e != api.OK {
			t.Errorf("the torn book %d: Wrong: %+v", i, a)
		}
	}
}

// TestOffAndTare has what passes tell of the bridge, of their wagon, and so of another one (P2.2).
func TestOffAndTare(t *testing.T) {
	for i, x := range []struct {
		b     api.WeighBook
		off   api.Span
		tares []api.Span
	}{
		{book(passes()), to(0, 2), []api.Span{to(20, 22), to(30, 31)}},
		{book(passes(empty(0, 22))), to(0, 2), []api.Span{to(20, 22), to(30, 31)}},
		{book(passes(empty(0, 23))), to(1, 2), []api.Span{to(21, 22), to(30, 31)}},
		{book(passes(empty(0, 24))), just(2), []api.Span{just(22), to(30, 31)}},
		{book(passes(empty(0, 20))), just(0), []api.Span{just(20), to(30, 31)}},
		{book(passes(empty(0, 24), empty(1, 32))), just(2), []api.Span{just(22), just(30)}},
		{book(passes(pass(0, just(0), 25, 1, 0))), just(2), []api.Span{just(22), to(30, 31)}},
		{book(passes(pass(0, just(0), 19, 1, 0))), just(0), []api.Span{just(20), to(30, 31)}},
		{book(passes(pass(0, just(0), 27, 5, 0))), to(0, 2), []api.Span{to(20, 22), to(30, 31)}},
		{book(passes(pass(0, to(10, 12), 30, 0, 0))), just(0), []api.Span{just(20), to(30, 31)}},
		{book(passes(pass(0, to(10, 12), 31, 0, 0))), to(0, 1), []api.Span{to(20, 21), to(30, 31)}},
		{book(passes(pass(0, to(10, 12), 35, 0, 0))), to(1, 2), []api.Span{to(21, 22), to(30, 31)}},
		{book(off(-2, -1), passes(empty(0, 19))), to(-2, -1), []api.Span{to(20, 21), to(30, 31)}},
		{book(off(-9, -9), passes(pass(0, to(0, 3), 12, 0, 0))), just(-9), []api.Span{to(20, 21), to(30, 31)}},
		{book(more(empty(1, 30))), just(0), []api.Span{just(22), just(30)}},
		{full(), to(5, 9), []api.Span{to(57, 60), to(57, 60), to(57, 60), to(57, 60)}},
		{full(passes(pass(3, just(60), 129, 0, 0))), just(9), []api.Span{to(57, 60), to(57, 60), to(57, 60), just(60)}},
	} {
		s, e := weigh.Off(x.b)
		if s != x.off || e != api.OK {
			t.Errorf("Off %d: %v, %d; want %v", i, s, e, x.off)
		}
		for n, want := range x.tares {
			s, e := weigh.Tare(x.b, n)
			if s != want || e != api.OK {
				t.Errorf("Tare %d of %d: %v, %d; want %v", n, i, s, e, want)
			}
		}
	}
}

// TestWeighsPaysBack has weights below, at and above Free, and what was paid below and above the toll (P2.3, P2.4).
func TestWeighsPaysBack(t *testing.T) {
	for i, x := range []struct {
		b                  api.WeighBook
		pass               int
		weighs, pays, back api.Span
	}{
		{book(more(pass(1, just(0), 30, 0, 5))), 3, just(30), just(2), just(3)},
		{book(more(pass(1, just(0), 30, 0, 5))), 1, to(32, 34), to(28, 32), to(8, 12)},
		{book(passes(pass(1, to(11, 13), 43, 0, 4))), 0, to(41, 43), to(3, 5), to(0, 1)},
		{book(passes(pass(1, to(11, 13), 43, 0, 5))), 0, to(41, 43), to(3, 5), to(0, 2)},
		{book(passes(pass(1, to(11, 13), 43, 0, 6))), 0, to(41, 43), to(3, 5), to(1, 3)},
		{book(passes(pass(1, to(8, 10), 40, 0, 2))), 0, to(38, 40), just(2), just(0)},
		{book(passes(pass(1, to(9, 12), 42, 1, 3))), 0, to(39, 43), to(2, 5), to(0, 1)},
		{book(passes(pass(0, to(0, 2), 20, 0, 4))), 0, just(20), just(4), just(0)},
		{book(passes(pass(0, to(10, 12), 30, 0, 0))), 0, just(30), just(24), just(0)},
		{book(off(-2, -1), passes(pass(0, just(0), 19, 0, 8))), 0, to(20, 21), to(4, 6), to(2, 4)},
		{book(wagons(wagon(to(20, 22), api.WeighMiddle)), passes(pass(0, to(10, 12), 33, 0, 9))), 0, to(31, 33), to(4, 6), to(3, 5)},
		{full(), 5, to(114, 120), to(99+114*9, 99+120*9), just(0)},
		{full(toll(api.WeighBroad, 119, 0, 9)), 5, to(114, 120), to(0, 9), to(990, 999)},
		{full(toll(api.WeighBroad, 120, 99, 9)), 5, to(114, 120), just(99), just(900)},
	} {
		s, e := weigh.Weighs(x.b, x.pass)
		if s != x.weighs || e != api.OK {
			t.Errorf("Weighs %d: %v, %d; want %v", i, s, e, x.weighs)
		}
		s, e = weigh.Pays(x.b, x.pass)
		if s != x.pays || e != api.OK {
			t.Errorf("Pays %d: %v, %d; want %v", i, s, e, x.pays)
		}
		s, e = weigh.Back(x.b, x.pass)
		if s != x.back || e != api.OK {
			t.Errorf("Back %d: %v, %d; want %v", i, s, e, x.back)
		}
	}
}

// TestOver has passes that paid their toll, perhaps more, and surely more (P2.5).
func TestOver(t *testing.T) {
	for i, x := range []struct {
		b    api.WeighBook
		want []int
	}{
		{book(passes()), nil},
		{book(passes(pass(1, to(11, 13), 43, 0, 5))), nil},
		{book(passes(pass(1, to(11, 13), 43, 0, 6))), []int{0}},
		{book(passes(pass(1, to(11, 13), 43, 0, 5), pass(1, just(0), 31, 1, 3))), []int{1}},
		{book(passes(pass(1, just(0), 31, 1, 2), pass(1, just(0), 31, 1, 1), pass(1, just(0), 31, 1, 3))), []int{2}},
		{full(), nil},
		{full(toll(api.WeighBroad, 120, 99, 9)), []int{0, 1, 2, 3, 4, 5}},
	} {
		l, e := weigh.Over(x.b)
		if !slices.Equal(l, x.want) || e != api.OK {
			t.Errorf("Over %d: %v, %d; want %v", i, l, e, x.want)
		}
	}
}

// TestFits has passes at and beside both ends of what can be shown; a seventh pass is asked for too (P2.6).
func TestFits(t *testing.T) {
	six := book(passes(slices.Repeat([]api.WeighPass{empty(0, 22)}, 6)...))
	for i, x := range []struct {
		b    api.WeighBook
		p    api.WeighPass
		want bool
	}{
		{book(), empty(0, 22), true}, {book(), empty(0, 23), false}, {book(), empty(0, 21), false},
		{book(), empty(1, 31), true}, {book(), empty(1, 30), true}, {book(), empty(1, 29), false}, {book(), empty(1, 32), false},
		{book(), pass(1, just(0), 25, 5, 0), true}, {book(), pass(1, just(0), 24, 5, 0), false},
		{book(), pass(1, just(0), 36, 5, 999), true}, {book(), pass(1, just(0), 37, 5, 999), false},
		{book(), pass(1, to(9, 10), 41, 0, 0), true}, {book(), pass(1, to(9, 10), 42, 0, 0), false},
		{book(), pass(1, to(9, 10), 39, 0, 0), true}, {book(), pass(1, to(9, 10), 38, 0, 0), false},
		{book(passes()), empty(0, 24), true}, {book(passes()), empty(0, 25), false}, {book(passes()), empty(1, 30), true},
		{six, empty(1, 30), true}, {six, empty(1, 33), true}, {six, empty(1, 34), false}, {six, empty(0, 23), false},
		{full(), pass(0, just(60), 129, 0, 0), true}, {full(), pass(0, just(60), 130, 0, 0), false},
	} {
		is, e := weigh.Fits(x.b, x.p)
		if is != x.want || e != api.OK {
			t.Errorf("Fits %d: %v, %d", i, is, e)
		}
	}
}

// TestWrong has passes that must be false: the fewest, and the first of several lists (P2.7, P2.1).
func TestWrong(t *testing.T) {
	for i, x := range []struct {
		b    api.WeighBook
		want []int
	}{
		{book(), nil},
		{book(passes()), nil},
		{book(more(empty(0, 25))), []int{3}},
		{book(more(empty(1, 33))), []int{2}},
		{book(passes(empty(0, 22), empty(0, 23), empty(0, 23))), []int{0}},
		{book(passes(empty(0, 23), empty(0, 23), empty(0, 22))), []int{2}},
		{book(passes(empty(0, 22), empty(0, 23))), []int{0}},
		{book(passes(empty(0, 22), empty(0, 22), empty(0, 23), empty(0, 23))), []int{0, 1}},
		{book(passes(empty(0, 22), empty(0, 23), empty(0, 23), empty(0, 22))), []int{0, 3}},
		{book(passes(empty(0, 22), empty(0, 23), empty(0, 22), empty(0, 24), empty(0, 21))), []int{1, 3, 4}},
		{book(passes(empty(0, 20), empty(1, 33))), []int{0}},
		{book(passes(empty(0, 19), empty(1, 34), empty(0, 22))), []int{0, 1}},
		{full(passes(slices.Repeat([]api.WeighPass{empty(0, 150)}, 6)...)), []int{0, 1, 2, 3, 4, 5}},
	} {
		l, e := weigh.Wrong(x.b)
		if !slices.Equal(l, x.want) || e != api.OK {
			t.Errorf("Wrong %d: %v, %d; want %v", i, l, e, x.want)
		}
		is, e := weigh.Right(x.b)
		if is != (len(x.want) == 0) || e != api.OK {
			t.Errorf("Right %d: %v, %d", i, is, e)
		}
	}
}

// TestAgain has tares that are known already, or only by the passes, and wagons of which one tells more (P2.8).
func TestAgain(t *testing.T) {
	known := wagons(wagon(just(22), 0), wagon(to(30, 31), 0))
	for i, x := range []struct {
		b    api.WeighBook
		want int
		e    api.Errno
	}{
		{book(passes()), 0, api.OK},
		{book(known, passes()), 1, api.OK},
		{book(known), 1, api.OK},
		{book(wagons(wagon(just(22), 0), wagon(just(30), 0)), passes()), 0, api.ErrNone},
		{book(wagons(wagon(just(22), 0), wagon(just(30), 0)), passes(pass(0, to(0, 3), 24, 5, 0))), 0, api.ErrNone},
		{book(more(empty(1, 30))), 0, api.ErrNone},
		{book(passes(empty(0, 20))), 1, api.OK},
		{book(passes(empty(0, 24))), 1, api.OK},
		{book(passes(pass(1, to(5, 8), 37, 2, 0))), 1, api.OK},
		{book(passes(pass(0, to(5, 8), 28, 2, 0))), 0, api.OK},
		// With either tare the other one stays as it is: two passes of the second wagon gain more than one of the first.
		{book(wagons(wagon(to(20, 21), 0), wagon(to(20, 21), 0)), passes(pass(0, just(0), 21, 5, 0), pass(1, just(0), 21, 5, 0))), 0, api.OK},
		{book(wagons(wagon(to(20, 21), 0), wagon(to(20, 21), 0)), passes(pass(0, just(0), 21, 5, 0), pass(1, just(0), 21, 5, 0), pass(1, just(0), 21, 5, 0))), 1, api.OK},
	} {
		n, e := weigh.Again(x.b)
		if n != x.want || e != x.e {
			t.Errorf("Again %d: %d, %d; want %d, %d", i, n, e, x.want, x.e)
		}
	}
}

func cloneBook(b api.WeighBook) api.WeighBook {
	b.Wagons, b.Passes = slices.Clone(b.Wagons), slices.Clone(b.Passes)
	return b
}

// TestArguments asks with lists behind whose ends the caller keeps something (P2.9).
func TestArguments(t *testing.T) {
	all := book(torn()).Passes
	for n := range all {
		kept := slices.Clone(all)
		b := book()
		b.Passes = kept[:n]
		before := cloneBook(b)
		weigh.Check(b)
		ask(b, 1, 0, pass(1, just(0), 8, 1, 0))
		if !slices.Equal(kept, all) || !slices.Equal(b.Wagons, before.Wagons) {
			t.Errorf("with %d passes: %v, %v", n, kept, b.Wagons)
		}
	}
}

// TestResults writes into results, and behind their ends, and into arguments afterwards: neither changes another result (P2.9, P2).
func TestResults(t *testing.T) {
	b := book()
	one, _ := weigh.Over(b)
	two, _ := weigh.Over(b)
	clear(one[:cap(one)])
	_ = append(one[:1], 7)
	checkList(t, "Over", two, api.OK, 1, 2)
	b = book(passes(empty(0, 22), empty(0, 22), empty(0, 23), empty(0, 23)))
	one, _ = weigh.Wrong(b)
	two, _ = weigh.Wrong(b)
	one[0], one[1] = 9, 9
	b.Passes[2], b.Passes[3] = empty(0, 22), empty(0, 22)
	checkList(t, "Wrong", two, api.OK, 0, 1)
	two, e := weigh.Wrong(b)
	checkList(t, "Wrong of another book", two, e)
	first := ask(book(), 1, 1, empty(1, 30))
	ask(book(torn()), 1, 1, empty(1, 30))
	if again := ask(book(), 1, 1, empty(1, 30)); !reflect.DeepEqual(first, again) {
		t.Errorf("once more: %+v; first %+v", again, first)
	}
}

// TestNilAndEmpty has nil lists and empty ones (R3).
func TestNilAndEmpty(t *testing.T) {
	one, two := book(passes()), book(passes([]api.WeighPass{}...))
	one.Passes, two.Passes = nil, []api.WeighPass{}
	if a, b := ask(one, 0, 0, empty(0, 22)), ask(two, 0, 0, empty(0, 22)); !reflect.DeepEqual(a, b) {
		t.Errorf("nil %+v; empty %+v", a, b)
	}
}
