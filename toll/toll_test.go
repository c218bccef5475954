package toll_test

import (
	"math"
	"reflect"
	"slices"
	"testing"

	"macadam/api"
	"macadam/toll"
)

const (
	goes    = api.TollGoes
	perhaps = api.TollPerhaps
	begins  = api.TollBegins
)

func to(low, high int) api.Span { return api.Span{Low: low, High: high} }

func just(n int) api.Span { return to(n, n) }

// passage is a gate, a wagon, a pass, the wheels with which it was seen, whether a journey begins, and what was paid.
func passage(gate, wagon, pass, seen, isNew, paid int) api.TollPassage {
	return api.TollPassage{Gate: gate, Wagon: wagon, Pass: pass, Seen: seen, New: isNew, Paid: paid}
}

type change func(b *api.TollBook)

func changed(b api.TollBook, changes ...change) api.TollBook {
	b = cloneBook(b)
	for _, c := range changes {
		c(&b)
	}
	return b
}

func cloneBook(b api.TollBook) api.TollBook {
	b.Weigh.Wagons, b.Weigh.Passes, b.Passages = slices.Clone(b.Weigh.Wagons), slices.Clone(b.Weigh.Passes), slices.Clone(b.Passages)
	return b
}

// book is that of the chapter's examples, changed.
func book(changes ...change) api.TollBook {
	return changed(api.TollBook{
		Weigh: api.WeighBook{
			Off:    to(0, 2),
			Wagons: []api.WeighWagon{{Tare: to(20, 22), Wheel: api.WeighNarrow}, {Tare: to(30, 31), Wheel: api.WeighBroad}},
			Passes: []api.WeighPass{{Shown: 22}, {Load: to(10, 12), Shown: 33, Error: 1, Paid: 40}, {Wagon: 1, Load: to(5, 6), Shown: 36, Paid: 10}},
			Tolls:  [3]api.WeighToll{{Free: 20, Base: 4, Rate: 2}, {Free: 30, Base: 3, Rate: 1}, {Free: 40, Base: 2, Rate: 1}},
		},
		Passages: []api.TollPassage{passage(0, 0, 1, 2, begins, 2), passage(1, 0, 1, 0, goes, 26), passage(1, 0, 0, 0, perhaps, 0), passage(0, 1, 2, 2, begins, 2)},
	}, changes...)
}

func passages(l ...api.TollPassage) change { return func(b *api.TollBook) { b.Passages = l } }

func more(l ...api.TollPassage) change {
	return func(b *api.TollBook) { b.Passages = append(b.Passages, l...) }
}

func isNew(n, state int) change { return func(b *api.TollBook) { b.Passages[n].New = state } }

func paid(n, pence int) change { return func(b *api.TollBook) { b.Passages[n].Paid = pence } }

func seen(n, wheels int) change { return func(b *api.TollBook) { b.Passages[n].Seen = wheels } }

func tolls(wheels, free, base, rate int) change {
	return func(b *api.TollBook) { b.Weigh.Tolls[wheels] = api.WeighToll{Free: free, Base: base, Rate: rate} }
}

func passes(l ...api.WeighPass) change { return func(b *api.TollBook) { b.Weigh.Passes = l } }

func weighed(l ...api.WeighPass) change {
	return func(b *api.TollBook) { b.Weigh.Passes = append(b.Weigh.Passes, l...) }
}

// thrice and torn are what the chapter calls so; odd has passes over the bridge that cannot all be right.
func thrice() change { return more(passage(1, 0, 0, 0, goes, 0)) }

func torn() change {
	return func(b *api.TollBook) { *b = changed(*b, thrice(), isNew(2, goes)) }
}

func odd() change { return weighed(api.WeighPass{Shown: 23}) }

// fixed has four wagons without a fault of the bridge: the wagon 0 weighs 10 empty by the pass 0, 20, 30 and 40 by the passes 1, 2 and 3, and each other one weighs 10 by a pass. Whoever is seen with narrow wheels pays 1 for each hundredweight, with those of middle breadth 5 in all, with broad ones nothing.
func fixed(l []api.TollPassage, changes ...change) api.TollBook {
	b := api.TollBook{Passages: l}
	for wagon := range api.WeighWagons {
		b.Weigh.Wagons = append(b.Weigh.Wagons, api.WeighWagon{Tare: just(10), Wheel: api.WeighBroad})
		for load := range 4 {
			if wagon == 0 || load == 0 && wagon < 3 {
				b.Weigh.Passes = append(b.Weigh.Passes, api.WeighPass{Wagon: wagon, Load: just(10 * load), Shown: 10 + 10*load})
			}
		}
	}
	b.Weigh.Tolls = [3]api.WeighToll{{Rate: 1}, {Free: 120, Base: 5, Rate: 9}, {Free: 120}}
	return changed(b, changes...)
}

// goesBy is a passage of the wagon 0 through a gate with narrow wheels, by a pass.
func goesBy(gate, pass, isNew int) api.TollPassage { return passage(gate, 0, pass, 0, isNew, 0) }

// full has as much of everything as is allowed, at its upper limits.
func full(changes ...change) api.TollBook {
	b := api.TollBook{Weigh: api.WeighBook{
		Off:    to(5, 9),
		Wagons: slices.Repeat([]api.WeighWagon{{Tare: to(57, 60), Wheel: api.WeighBroad}}, api.WeighWagons),
		Tolls:  [3]api.WeighToll{{Free: 120, Base: 99, Rate: 9}, {Free: 120, Base: 99, Rate: 9}, {Free: 0, Base: 99, Rate: 9}},
	}}
	for n := range api.WeighPasses {
		b.Weigh.Passes = append(b.Weigh.Passes, api.WeighPass{Wagon: n % api.WeighWagons, Load: to(57, 60), Shown: 124, Error: 5, Paid: 999})
	}
	for n := range api.TollPassages {
		b.Passages = append(b.Passages, passage(api.TollGates, 1, 1+n%2*api.WeighWagons, api.WeighBroad, perhaps, api.TollPaid))
	}
	return changed(b, changes...)
}

// answer is what a function returns; what does not apply to it is zero.
type answer struct {
	span api.Span
	n    int
	is   bool
	list []int
	e    api.Errno
}

func isNothingBut(a answer, e api.Errno) bool {
	return len(a.list) == 0 && a.span == (api.Span{}) && a.n == 0 && !a.is && a.e == e
}

// ask calls all functions but Check; those that ask are asked with these numbers.
func ask(b api.TollBook, passage, wagon int) map[string]answer {
	all := map[string]answer{}
	var a answer
	put := func(name string) { all[name], a = a, answer{} }
	a.is, a.e = toll.Right(b)
	put("Right")
	a.span, a.e = toll.Toll(b, passage)
	put("Toll")
	a.span, a.e = toll.Journeys(b, wagon)
	put("Journeys")
	a.span, a.e = toll.Owes(b, wagon)
	put("Owes")
	a.span, a.e = toll.Debt(b, wagon)
	put("Debt")
	a.list, a.e = toll.Twice(b)
	put("Twice")
	a.list, a.e = toll.May(b)
	put("May")
	a.list, a.e = toll.Changed(b)
	put("Changed")
	a.n, a.e = toll.Ask(b)
	put("Ask")
	return all
}

func checkSpan(t *testing.T, what string, got api.Span, e api.Errno, want api.Span) {
	t.Helper()
	if got != want || e != api.OK {
		t.Errorf("%s: %v, %d; want %v", what, got, e, want)
	}
}

func checkList(t *testing.T, what string, got []int, e api.Errno, want ...int) {
	t.Helper()
	if !slices.Equal(got, want) || e != api.OK {
		t.Errorf("%s: %v, %d; want %v", what, got, e, want)
	}
}

func checkRight(t *testing.T, what string, b api.TollBook, want bool) {
	t.Helper()
	if is, e := toll.Right(b); is != want || e != api.OK {
		t.Errorf("%s: Right: %v, %d; want %v", what, is, e, want)
	}
}

func checkAsk(t *testing.T, what string, b api.TollBook, want int, f api.Errno) {
	t.Helper()
	if n, e := toll.Ask(b); n != want || e != f {
		t.Errorf("%s: Ask: %d, %d; want %d, %d", what, n, e, want, f)
	}
}

// TestExamples has the examples of the chapter.
func TestExamples(t *testing.T) {
	for n, want := range []api.Span{just(2), to(26, 32), to(6, 8), just(2)} {
		s, e := toll.Toll(book(), n)
		checkSpan(t, "Toll", s, e, want)
	}
	for i, x := range []struct {
		b              api.TollBook
		wagon          int
		journeys, owes api.Span
	}{{book(), 0, to(1, 2), to(26, 40)}, {book(), 1, just(1), just(2)}, {book(thrice()), 0, just(2), to(32, 40)}} {
		s, e := toll.Journeys(x.b, x.wagon)
		checkSpan(t, "Journeys", s, e, x.journeys)
		s, e = toll.Owes(x.b, x.wagon)
		checkSpan(t, "Owes", s, e, x.owes)
		if i < 2 {
			s, e = toll.Debt(x.b, x.wagon)
			checkSpan(t, "Debt", s, e, []api.Span{to(-2, 12), just(0)}[i])
		}
	}
	for i, b := range []api.TollBook{book(), book(paid(2, 6))} {
		l, e := toll.Twice(b)
		checkList(t, "Twice", l, e, 1)
		l, e = toll.May(b)
		checkList(t, "May", l, e, [][]int{{1}, {1, 2}}[i]...)
	}
	l, e := toll.Changed(book())
	checkList(t, "Changed", l, e, 0)
	checkAsk(t, "the book", book(), 2, api.OK)
	checkAsk(t, "thrice", book(thrice()), 0, api.ErrNone)
	checkRight(t, "torn", book(torn()), false)
	if s, e := toll.Toll(book(torn()), 0); s != (api.Span{}) || e != api.ErrTollFalse {
		t.Errorf("torn: Toll: %v, %d", s, e)
	}
}

// TestExampleOfOverview has the tenth example of DOC.md: three gates on one journey, whichever of them is the dearest.
func TestExampleOfOverview(t *testing.T) {
	for dearest := range 3 {
		l := []api.TollPassage{goesBy(0, 0, begins), goesBy(1, 1, goes), goesBy(2, 0, goes)}
		l[dearest].Pass = 3
		s, e := toll.Owes(fixed(l), 0)
		checkSpan(t, "Owes", s, e, just(40))
	}
}

// TestCheckLimits has books at the ends of each limit (P10.1).
func TestCheckLimits(t *testing.T) {
	for i, b := range []api.TollBook{
		book(), book(thrice()), book(torn()), book(odd()), full(), book(passages()), book(passages(), passes()), fixed(nil),
		book(more(passage(0, 0, 0, 0, 0, 0))), book(more(passage(9, 1, 2, 2, 2, 999))), book(more(passage(9, 0, 1, 1, 1, 1))),
		book(passages(slices.Repeat([]api.TollPassage{passage(0, 1, 2, 1, 0, 0)}, 8)...)),
		full(passages(passage(0, 3, 3, 0, 0, 0), passage(0, 0, 0, 0, 0, 0), passage(0, 0, 4, 0, 0, 0), passage(0, 1, 5, 0, 0, 0))),
	} {
		if e := toll.Check(b); e != api.OK {
			t.Errorf("the valid book %d: %d", i, e)
		}
	}
}

// wrongPassages are passages beyond the ends of each limit, and with passes of another wagon.
func wrongPassages() []api.TollPassage {
	l := []api.TollPassage{
		passage(10, 0, 0, 0, 0, 0), passage(0, 2, 2, 0, 0, 0), passage(0, 0, 3, 0, 0, 0), passage(0, 0, 2, 0, 0, 0), passage(0, 1, 0, 0, 0, 0), passage(0, 1, 1, 0, 0, 0),
		passage(0, 0, 0, 3, 0, 0), passage(0, 0, 0, 0, 3, 0), passage(0, 0, 0, 0, 0, 1000),
	}
	for _, n := range []int{-1, math.MinInt, math.MaxInt, 64, -64, 1 << 20} {
		l = append(l, passage(n, 0, 0, 0, 0, 0), passage(0, n, 0, 0, 0, 0), passage(0, 0, n, 0, 0, 0), passage(0, 0, 0, n, 0, 0), passage(0, 0, 0, 0, n, 0))
		if n < 0 || n > api.TollPaid {
			l = append(l, passage(0, 0, 0, 0, 0, n))
		}
	}
	return l
}

// wrongBooks are books beyond the ends of each limit.
func wrongBooks() []api.TollBook {
	changes := []change{
		func(b *api.TollBook) { *b = api.TollBook{} },
		func(b *api.TollBook) { b.Weigh = api.WeighBook{} },
		func(b *api.TollBook) { b.Weigh, b.Passages = api.WeighBook{}, nil },
		func(b *api.TollBook) { b.Weigh.Off = just(10) },
		func(b *api.TollBook) { b.Weigh.Wagons[1].Tare = to(1, 5) },
		func(b *api.TollBook) { b.Weigh.Wagons[1].Wheel = 3 },
		func(b *api.TollBook) { b.Weigh.Wagons = nil },
		func(b *api.TollBook) { b.Weigh.Wagons = b.Weigh.Wagons[:1] },
		func(b *api.TollBook) { b.Weigh.Passes = b.Weigh.Passes[:2] },
		func(b *api.TollBook) { b.Weigh.Passes[2].Wagon = 0 },
		tolls(1, 121, 0, 0), tolls(1, 0, 100, 0), tolls(2, 0, 0, 10), tolls(0, 0, 0, -1),
		passes(), weighed(api.WeighPass{Shown: 151}), weighed(slices.Repeat([]api.WeighPass{{Shown: 22}}, 4)...),
		passages(make([]api.TollPassage, 9)...), more(make([]api.TollPassage, 5)...), passages(make([]api.TollPassage, 1000)...),
	}
	for _, p := range wrongPassages() {
		changes = append(changes, more(p), passages(p), passages(p, passage(0, 0, 0, 0, 0, 0)))
	}
	var l []api.TollBook
	for _, c := range changes {
		l = append(l, book(c))
	}
	return l
}

// light lets the first pass over the bridge show too little: it cannot be right.
func light() change {
	return func(b *api.TollBook) {
		if len(b.Weigh.Passes) > 0 {
			b.Weigh.Passes[0].Shown = 0
		}
	}
}

// TestErrToll has wrong books: all functions return ErrToll first, and nothing else (P10.1, P1).
func TestErrToll(t *testing.T) {
	checkRight(t, "a light book", book(light()), false)
	for i, b := range wrongBooks() {
		if e := toll.Check(b); e != api.ErrToll {
			t.Errorf("the wrong book %d: Check: %d", i, e)
		}
		for _, b := range []api.TollBook{b, changed(b, light())} {
			for _, n := range []int{0, 1, -1, math.MinInt, math.MaxInt} {
				for name, a := range ask(b, n, n) {
					if !isNothingBut(a, api.ErrToll) {
						t.Errorf("the wrong book %d: %s of %d: %+v", i, name, n, a)
					}
				}
			}
		}
	}
}

// TestErrTollAsk has wrong questions: they come before a book that cannot be true (P10.2 to P10.4).
func TestErrTollAsk(t *testing.T) {
	hold := func(b api.TollBook, passage, wagon int) {
		t.Helper()
		all := ask(b, passage, wagon)
		for _, name := range []string{"Toll", "Journeys", "Owes", "Debt"} {
			if !isNothingBut(all[name], api.ErrTollAsk) {
				t.Errorf("%s of %d, %d: %+v", name, passage, wagon, all[name])
			}
		}
	}
	for _, b := range []api.TollBook{book(), book(thrice()), book(torn()), book(odd()), book(torn(), odd()), full(), book(passages()), book(passages(), odd())} {
		for _, n := range []int{-1, math.MinInt, math.MaxInt, 8, 64, -64} {
			hold(b, n, n)
		}
		hold(b, len(b.Passages), len(b.Weigh.Wagons))
	}
	// The one can be asked about, the other one cannot.
	all := ask(book(), 3, 2)
	if all["Toll"].e != api.OK || all["Owes"].e != api.ErrTollAsk {
		t.Errorf("Toll of 3: %+v; Owes of 2: %+v", all["Toll"], all["Owes"])
	}
}

// TestErrTollFalse has books that cannot be true, by the bridge or by a gate: nothing is told of any passage or wagon (P10.2 to P10.7).
func TestErrTollFalse(t *testing.T) {
	for i, b := range []api.TollBook{
		book(torn()), book(odd()), book(torn(), odd()), book(odd(), passages(passage(0, 0, 0, 0, 0, 0))),
		// Only the other wagon cannot be so.
		book(more(passage(0, 1, 2, 2, goes, 0), passage(0, 1, 2, 2, goes, 0))),
		full(func(b *api.TollBook) { b.Passages = slices.Repeat([]api.TollPassage{passage(9, 1, 1, 0, goes, 0)}, 3) }),
	} {
		checkRight(t, "a torn book", b, false)
		if e := toll.Check(b); e != api.OK {
			t.Errorf("the torn book %d: Check: %d", i, e)
		}
		for n := range len(b.Passages) {
			for name, a := range ask(b, n, n%len(b.Weigh.Wagons)) {
				if name != "Right" && !isNothingBut(a, api.ErrTollFalse) {
					t.Errorf("the torn book %d: %s of %d: %+v", i, name, n, a)
				}
			}
		}
	}
	if a := ask(book(odd(), passages()), 0, 0)["Owes"]; !isNothingBut(a, api.ErrTollFalse) {
		t.Errorf("the odd book without passages: %+v", a)
	}
}

// TestRight passes gates twice, and more often: on one journey, and on several (P10.1).
func TestRight(t *testing.T) {
	for i, x := range []struct {
		states []int
		want   bool
	}{
		{nil, true}, {[]int{goes}, true}, {[]int{goes, goes}, true}, {[]int{goes, goes, goes}, false}, {[]int{begins, goes, goes}, false}, {[]int{perhaps, goes, goes}, false},
		{[]int{goes, perhaps, goes}, true}, {[]int{goes, goes, perhaps}, true}, {[]int{goes, goes, begins}, true}, {[]int{goes, begins, goes}, true}, {[]int{goes, begins, goes, goes}, false},
		{[]int{goes, goes, perhaps, goes}, true}, {[]int{goes, goes, perhaps, goes, goes}, false}, {[]int{goes, perhaps, goes, goes}, false}, {[]int{goes, perhaps, goes, perhaps, goes}, true},
		{[]int{begins, begins, begins, begins, begins, begins, begins, begins}, true}, {[]int{goes, goes, begins, goes, perhaps, goes, perhaps, goes}, true}, {[]int{goes, goes, begins, goes, perhaps, goes, goes, begins}, false},
	} {
		var l []api.TollPassage
		for _, s := range x.states {
			l = append(l, goesBy(3, 0, s))
		}
		if is, e := toll.Right(fixed(l)); is != x.want || e != api.OK {
			t.Errorf("Right %d: %v, %d; want %v", i, is, e, x.want)
		}
	}
	checkRight(t, "three gates, each twice", fixed([]api.TollPassage{goesBy(0, 0, goes), goesBy(1, 0, goes), goesBy(9, 0, goes), goesBy(9, 0, goes), goesBy(1, 0, goes), goesBy(0, 0, goes)}), true)
	checkRight(t, "the first gate three times", fixed([]api.TollPassage{goesBy(0, 0, goes), goesBy(1, 0, goes), goesBy(0, 0, goes), goesBy(1, 0, goes), goesBy(0, 0, goes)}), false)
	checkRight(t, "the last gate three times", fixed([]api.TollPassage{goesBy(9, 0, goes), goesBy(9, 0, goes), goesBy(1, 0, goes), goesBy(2, 0, goes), goesBy(9, 3, goes)}), false)
	checkRight(t, "two wagons at one gate, each twice", fixed([]api.TollPassage{goesBy(0, 0, goes), passage(0, 1, 4, 0, goes, 0), goesBy(0, 0, goes), passage(0, 1, 4, 0, goes, 0)}), true)
	checkRight(t, "four wagons at one gate, each twice", fixed(slices.Repeat([]api.TollPassage{goesBy(0, 0, goes), passage(0, 1, 4, 0, goes, 0), passage(0, 2, 5, 0, goes, 0)}, 2)), true)
	checkRight(t, "another journey between", fixed([]api.TollPassage{goesBy(0, 0, goes), goesBy(0, 0, goes), passage(0, 1, 4, 0, begins, 0), goesBy(0, 0, goes)}), false)
	checkRight(t, "each of two gates three times, with one beginning", fixed([]api.TollPassage{goesBy(0, 0, goes), goesBy(0, 0, goes), goesBy(1, 0, perhaps), goesBy(0, 0, goes), goesBy(1, 0, goes), goesBy(1, 0, goes)}), false)
	checkRight(t, "each of two gates three times, with a beginning between", fixed([]api.TollPassage{goesBy(0, 0, goes), goesBy(0, 0, goes), goesBy(1, 0, goes), goesBy(0, 0, perhaps), goesBy(1, 0, goes), goesBy(1, 0, goes)}), true)
}

// TestToll has weights below, at and above Free, and wheels that are not those of the wagon (P10.2).
func TestToll(t *testing.T) {
	for i, x := range []struct {
		b    api.TollBook
		n    int
		want api.Span
	}{
		{book(), 0, just(2)}, {book(seen(0, 1)), 0, to(4, 7)}, {book(seen(0, 0)), 0, to(26, 32)}, {book(seen(2, 1)), 2, just(3)}, {book(seen(3, 0)), 3, to(34, 36)}, {book(seen(3, 1)), 3, to(8, 9)},
		{book(tolls(2, 32, 2, 1)), 0, to(2, 4)}, {book(tolls(2, 33, 2, 1)), 0, to(2, 3)}, {book(tolls(2, 34, 2, 1)), 0, just(2)}, {book(tolls(2, 31, 2, 1)), 0, to(2, 5)}, {book(tolls(2, 30, 2, 1)), 0, to(3, 6)},
		{book(tolls(2, 0, 0, 9)), 0, to(279, 306)}, {book(tolls(2, 0, 9, 0)), 0, just(9)}, {book(tolls(2, 120, 0, 9)), 0, just(0)},
		// What is known of the weight of one pass tells of another one.
		{book(weighed(api.WeighPass{Wagon: 1, Shown: 30})), 1, to(28, 32)}, {book(weighed(api.WeighPass{Wagon: 1, Shown: 30})), 2, just(8)},
		// Neither what was paid nor journeys tell of a toll.
		{book(paid(1, 999)), 1, to(26, 32)}, {book(thrice()), 4, to(6, 8)}, {book(isNew(1, begins)), 1, to(26, 32)}, {book(isNew(1, perhaps)), 0, just(2)},
		{full(), 0, to(99+114*9, 99+120*9)}, {full(seen(7, 0)), 7, just(99)}, {full(), 7, to(99+114*9, 99+120*9)},
	} {
		if s, e := toll.Toll(x.b, x.n); s != x.want || e != api.OK {
			t.Errorf("Toll %d: %v, %d; want %v", i, s, e, x.want)
		}
	}
}

// journeysBook has six passages of the wagon 0 by the passes 0 to 3, whose tolls are 10, 40, 20, 30, 10 and 20.
func journeysBook(states ...int) api.TollBook {
	var l []api.TollPassage
	for n, pass := range []int{0, 3, 1, 2, 0, 1} {
		l = append(l, goesBy(n, pass, states[n]))
	}
	return fixed(l)
}

// TestJourneys has beginnings that are known, that are not, and that a gate forbids or asks for (P10.3, P10.4).
func TestJourneys(t *testing.T) {
	for i, x := range []struct {
		b              api.TollBook
		wagon          int
		journeys, owes api.Span
	}{
		{journeysBook(goes, goes, goes, goes, goes, goes), 0, just(1), just(40)},
		{journeysBook(begins, begins, begins, begins, begins, begins), 0, just(6), just(130)},
		{journeysBook(goes, begins, begins, begins, begins, begins), 0, just(6), just(130)},
		{journeysBook(perhaps, perhaps, perhaps, perhaps, perhaps, perhaps), 0, to(1, 6), to(40, 130)},
		{journeysBook(goes, goes, begins, goes, goes, goes), 0, just(2), just(70)},
		{journeysBook(goes, goes, goes, begins, goes, goes), 0, just(2), just(70)},
		{journeysBook(goes, goes, goes, goes, begins, goes), 0, just(2), just(60)},
		{journeysBook(goes, begins, goes, goes, goes, goes), 0, just(2), just(50)},
		{journeysBook(goes, perhaps, goes, goes, goes, goes), 0, to(1, 2), to(40, 50)},
		{journeysBook(goes, goes, perhaps, goes, perhaps, goes), 0, to(1, 3), to(40, 90)},
		{journeysBook(goes, begins, goes, perhaps, goes, begins), 0, to(3, 4), to(70, 100)},
		{fixed(nil), 0, just(0), just(0)}, {journeysBook(goes, goes, goes, goes, goes, goes), 3, just(0), just(0)},
		{fixed([]api.TollPassage{goesBy(0, 0, goes), goesBy(0, 1, perhaps), goesBy(0, 2, perhaps)}), 0, to(2, 3), to(40, 60)},
		{fixed([]api.TollPassage{goesBy(0, 0, goes), goesBy(0, 1, goes), goesBy(0, 2, perhaps)}), 0, just(2), just(50)},
		{fixed([]api.TollPassage{goesBy(0, 0, goes), goesBy(0, 1, perhaps), goesBy(0, 2, goes)}), 0, just(2), just(40)},
		{fixed([]api.TollPassage{goesBy(0, 0, goes), passage(0, 1, 4, 0, begins, 0), goesBy(0, 3, goes), passage(0, 1, 4, 0, goes, 0)}), 0, just(1), just(40)},
		{fixed([]api.TollPassage{goesBy(0, 0, goes), passage(0, 1, 4, 0, begins, 0), goesBy(0, 3, goes), passage(0, 1, 4, 0, begins, 0)}), 1, just(2), just(20)},
		{fixed(slices.Repeat([]api.TollPassage{goesBy(9, 0, perhaps)}, 8)), 0, to(4, 8), to(40, 80)},
		{full(), 1, to(4, 8), to(4*(99+114*9), 8*(99+120*9))},
	} {
		if s, e := toll.Journeys(x.b, x.wagon); s != x.journeys || e != api.OK {
			t.Errorf("Journeys %d: %v, %d; want %v", i, s, e, x.journeys)
		}
		if s, e := toll.Owes(x.b, x.wagon); s != x.owes || e != api.OK {
			t.Errorf("Owes %d: %v, %d; want %v", i, s, e, x.owes)
		}
	}
}

// TestDearest has journeys whose dearest passage is another one with other wheels, or with another weight (P10.4).
func TestDearest(t *testing.T) {
	l := func(one, two int) []api.TollPassage {
		return []api.TollPassage{passage(0, 0, 0, one, begins, 0), passage(1, 0, 3, two, goes, 0)}
	}
	for i, x := range []struct {
		b    api.TollBook
		want api.Span
	}{
		{fixed(l(0, 0)), just(40)}, {fixed(l(0, 1)), just(10)}, {fixed(l(1, 1)), just(5)}, {fixed(l(2, 1)), just(5)}, {fixed(l(2, 2)), just(0)}, {fixed(l(1, 0)), just(40)}, {fixed(l(0, 2)), just(10)},
		// With the least weight the one is the dearest, with the greatest one the other.
		{book(passages(passage(0, 0, 0, 1, begins, 0), passage(1, 0, 1, 2, goes, 0)), tolls(1, 0, 20, 0), tolls(2, 0, 0, 0)), just(20)},
		{book(passages(passage(0, 0, 0, 1, begins, 0), passage(1, 0, 1, 2, goes, 0)), tolls(1, 0, 32, 0), tolls(2, 0, 0, 1)), to(32, 34)},
		{book(passages(passage(1, 0, 1, 2, begins, 0), passage(0, 0, 0, 1, goes, 0)), tolls(1, 0, 32, 0), tolls(2, 0, 0, 1)), to(32, 34)},
		{book(passages(passage(1, 0, 1, 2, begins, 0), passage(0, 0, 0, 1, begins, 0)), tolls(1, 0, 32, 0), tolls(2, 0, 0, 1)), to(63, 66)},
	} {
		s, e := toll.Owes(x.b, 0)
		if s != x.want || e != api.OK {
			t.Errorf("Owes %d: %v, %d; want %v", i, s, e, x.want)
		}
	}
}

// TestDebt takes what was paid at all passages of a wagon, and of no other one (P10.4).
func TestDebt(t *testing.T) {
	for i, x := range []struct {
		b     api.TollBook
		wagon int
		want  api.Span
	}{
		{book(), 0, to(-2, 12)}, {book(), 1, just(0)}, {book(paid(3, 0)), 1, just(2)}, {book(paid(3, 3)), 1, just(-1)}, {book(paid(3, 999)), 0, to(-2, 12)}, {book(paid(0, 0)), 0, to(0, 14)}, {book(paid(2, 14)), 0, to(-16, -2)},
		{book(thrice(), paid(4, 1)), 0, to(3, 11)}, {book(passages()), 0, just(0)}, {book(passages(passage(0, 1, 2, 2, 0, 7))), 0, just(0)},
		{full(), 1, to(4*(99+114*9)-8*999, 8*(99+120*9)-8*999)}, {full(), 0, just(0)},
	} {
		if s, e := toll.Debt(x.b, x.wagon); s != x.want || e != api.OK {
			t.Errorf("Debt %d: %v, %d; want %v", i, s, e, x.want)
		}
	}
}

// paidBook has passages of the wagon 0 at which so much was paid, through gates of their own.
func paidBook(states []int, pence ...int) api.TollBook {
	var l []api.TollPassage
	for n, p := range pence {
		l = append(l, passage(n, 0, 0, 0, states[n], p))
	}
	return fixed(l)
}

// TestTwice has passages that were paid on one journey, perhaps on one, and on several (P10.5).
func TestTwice(t *testing.T) {
	one, all, some := []int{goes, goes, goes, goes}, []int{goes, begins, begins, begins}, []int{goes, perhaps, goes, perhaps}
	for i, x := range []struct {
		b          api.TollBook
		twice, may []int
	}{
		{paidBook(one, 1, 1, 1, 1), []int{1, 2, 3}, []int{1, 2, 3}}, {paidBook(one, 0, 1, 0, 9), []int{3}, []int{3}}, {paidBook(one, 9, 0, 0, 1), []int{3}, []int{3}}, {paidBook(one, 0, 0, 0, 1), nil, nil}, {paidBook(one, 9, 0, 0, 0), nil, nil},
		{paidBook(all, 1, 1, 1, 1), nil, nil}, {paidBook(some, 1, 1, 1, 1), []int{2}, []int{1, 2, 3}}, {paidBook(some, 1, 0, 1, 1), nil, []int{2, 3}}, {paidBook(some, 0, 1, 1, 0), []int{2}, []int{2}}, {paidBook(some, 1, 0, 0, 1), nil, []int{3}},
		{paidBook([]int{goes, goes, begins, goes}, 1, 1, 1, 1), []int{1, 3}, []int{1, 3}}, {paidBook([]int{begins, perhaps, perhaps, perhaps}, 1, 0, 0, 1), nil, []int{3}},
		// What another wagon paid says nothing.
		{fixed([]api.TollPassage{passage(0, 0, 0, 0, goes, 9), passage(0, 1, 4, 0, goes, 9), passage(0, 0, 0, 0, goes, 0), passage(0, 1, 4, 0, goes, 9)}), []int{3}, []int{3}},
		// Of two beginnings that may be one must be, as a gate is passed three times.
		{fixed([]api.TollPassage{passage(0, 0, 0, 0, goes, 1), passage(0, 0, 0, 0, goes, 1), passage(1, 0, 0, 0, perhaps, 1), passage(0, 0, 0, 0, perhaps, 1)}), []int{1}, []int{1, 2, 3}},
		{fixed([]api.TollPassage{passage(0, 0, 0, 0, goes, 1), passage(0, 0, 0, 0, goes, 0), passage(1, 0, 0, 0, perhaps, 0), passage(0, 0, 0, 0, perhaps, 1)}), nil, nil},
		{fixed(nil), nil, nil}, {full(), nil, []int{1, 2, 3, 4, 5, 6, 7}}, {full(isNew(1, goes)), []int{1}, []int{1, 3, 4, 5, 6, 7}}, {full(isNew(7, goes)), []int{7}, []int{1, 2, 3, 4, 5, 7}},
	} {
		if l, e := toll.Twice(x.b); !slices.Equal(l, x.twice) || e != api.OK {
			t.Errorf("Twice %d: %v, %d; want %v", i, l, e, x.twice)
		}
		if l, e := toll.May(x.b); !slices.Equal(l, x.may) || e != api.OK {
			t.Errorf("May %d: %v, %d; want %v", i, l, e, x.may)
		}
	}
}

// seenBook has passages of the wagon 0 that was seen with such wheels, through gates of their own.
func seenBook(states []int, wheels ...int) api.TollBook {
	var l []api.TollPassage
	for n, w := range wheels {
		l = append(l, passage(n, 0, 0, w, states[n], 0))
	}
	return fixed(l)
}

// TestChanged has wagons that were seen with other wheels on one journey, perhaps on one, and on another one (P10.6).
func TestChanged(t *testing.T) {
	one, all, some := []int{goes, goes, goes, goes}, []int{goes, begins, begins, begins}, []int{goes, perhaps, goes, perhaps}
	for i, x := range []struct {
		b    api.TollBook
		want []int
	}{
		{seenBook(one, 2, 2, 2, 2), nil}, {seenBook(one, 0, 0, 0, 1), []int{0}}, {seenBook(one, 1, 2, 2, 2), []int{0}}, {seenBook(one, 1, 1, 2, 1), []int{0}}, {seenBook(one, 0), nil},
		{seenBook(all, 0, 1, 2, 0), nil}, {seenBook(some, 0, 1, 1, 2), nil}, {seenBook(some, 0, 0, 1, 1), []int{0}}, {seenBook(some, 2, 1, 0, 2), []int{0}}, {seenBook(some, 1, 0, 0, 0), nil},
		{seenBook([]int{goes, goes, begins, goes}, 0, 0, 1, 1), nil}, {seenBook([]int{goes, goes, begins, goes}, 0, 0, 1, 0), []int{0}},
		// In each truth it changed wheels, but not on the same journey.
		{fixed([]api.TollPassage{passage(0, 0, 0, 0, goes, 0), passage(0, 0, 0, 1, perhaps, 0), passage(0, 0, 0, 0, perhaps, 0), passage(1, 0, 0, 1, goes, 0)}), []int{0}},
		// Wagons that are seen with unlike wheels, each always with the same ones; and several wagons that changed.
		{fixed([]api.TollPassage{passage(0, 0, 0, 0, goes, 0), passage(0, 1, 4, 1, goes, 0), passage(0, 0, 0, 0, goes, 0), passage(0, 1, 4, 1, goes, 0)}), nil},
		{fixed([]api.TollPassage{passage(0, 2, 5, 0, goes, 0), passage(0, 1, 4, 1, goes, 0), passage(0, 2, 5, 1, goes, 0), passage(0, 1, 4, 0, goes, 0)}), []int{1, 2}},
		{fixed([]api.TollPassage{passage(0, 2, 5, 0, goes, 0), passage(0, 1, 4, 1, goes, 0), passage(0, 2, 5, 1, goes, 0), passage(0, 1, 4, 0, perhaps, 0)}), []int{2}},
		{fixed(nil), nil}, {full(), nil},
	} {
		if l, e := toll.Changed(x.b); !slices.Equal(l, x.want) || e != api.OK {
			t.Errorf("Changed %d: %v, %d; want %v", i, l, e, x.want)
		}
	}
}

// TestAsk has passages of which one tells more, as much, or nothing, at the worst of both answers (P10.7).
func TestAsk(t *testing.T) {
	for i, x := range []struct {
		b    api.TollBook
		want int
		e    api.Errno
	}{
		{fixed(nil), 0, api.ErrNone}, {journeysBook(begins, goes, begins, goes, begins, goes), 0, api.ErrNone}, {journeysBook(perhaps, goes, goes, goes, goes, goes), 0, api.ErrNone}, {journeysBook(goes, goes, goes, goes, perhaps, goes), 4, api.OK},
		// The passage 2 adds 30 if a journey begins with it, the passage 4 adds 20.
		{journeysBook(goes, goes, perhaps, goes, perhaps, goes), 2, api.OK},
		// The passage 1 adds 10, the passage 5 adds 20.
		{journeysBook(goes, perhaps, goes, goes, goes, perhaps), 5, api.OK},
		// Both add 20: the first one.
		{journeysBook(goes, goes, goes, goes, perhaps, perhaps), 4, api.OK},
		// The toll is the same with each: no answer is better.
		{fixed([]api.TollPassage{goesBy(0, 0, goes), passage(1, 0, 0, 2, perhaps, 0), passage(2, 0, 0, 2, perhaps, 0)}), 1, api.OK},
		// The ends are 35 or 35 apart with the passage 1, and 15 or 40 with each other one: not what is best at the best, nor both together.
		{fixed([]api.TollPassage{goesBy(5, 0, goes), goesBy(0, 3, perhaps), passage(3, 0, 1, 1, perhaps, 0), goesBy(0, 2, perhaps)}), 1, api.OK},
		// They are 45 or 45 apart with the passage 3, and, if no journey begins with it, 80 with each other one.
		{fixed([]api.TollPassage{goesBy(4, 3, goes), passage(3, 0, 0, 1, perhaps, 0), goesBy(5, 3, perhaps), goesBy(1, 3, perhaps)}), 3, api.OK},
		// They are 10 or 10 apart with the passage 3, and, if a journey begins with it, 15 with each other one.
		{fixed([]api.TollPassage{goesBy(5, 0, goes), goesBy(5, 3, perhaps), goesBy(5, 0, perhaps), passage(4, 0, 3, 1, perhaps, 0)}), 3, api.OK},
		// A gate asks for the one, so that only the other one is not known.
		{fixed([]api.TollPassage{goesBy(0, 0, goes), goesBy(0, 0, goes), goesBy(0, 0, perhaps), goesBy(1, 0, perhaps)}), 3, api.OK},
		{fixed([]api.TollPassage{goesBy(0, 0, goes), goesBy(0, 0, goes), goesBy(0, 0, perhaps)}), 0, api.ErrNone},
		// The toll of the other wagon is the one that is known less well, or cannot be known better.
		{fixed([]api.TollPassage{goesBy(0, 0, goes), passage(0, 1, 4, 0, goes, 0), goesBy(0, 0, perhaps), passage(0, 1, 4, 0, perhaps, 0)}), 2, api.OK},
		{fixed([]api.TollPassage{goesBy(0, 0, goes), passage(0, 1, 4, 0, goes, 0), passage(0, 0, 0, 1, perhaps, 0), passage(0, 1, 4, 0, perhaps, 0)}), 3, api.OK},
		// What was paid does not matter.
		{fixed([]api.TollPassage{goesBy(0, 0, goes), passage(0, 1, 4, 0, goes, 0), passage(0, 0, 0, 1, perhaps, 999), passage(0, 1, 4, 0, perhaps, 0)}), 3, api.OK},
		{full(), 1, api.OK},
	} {
		if n, e := toll.Ask(x.b); n != x.want || e != x.e {
			t.Errorf("Ask %d: %d, %d; want %d, %d", i, n, e, x.want, x.e)
		}
	}
}

// TestArguments asks with lists behind whose ends the caller keeps something (P10.8).
func TestArguments(t *testing.T) {
	all := book(thrice(), weighed(api.WeighPass{Wagon: 1, Load: just(1), Shown: 31}))
	for n := range len(all.Passages) + 1 {
		kept := cloneBook(all)
		b := kept
		b.Weigh.Passes, b.Passages = kept.Weigh.Passes[:3], kept.Passages[:n]
		toll.Check(b)
		ask(b, 0, 1)
		if !reflect.DeepEqual(kept, all) {
			t.Errorf("with %d passages: %+v", n, kept)
		}
	}
}

// TestResults writes into results, and behind their ends, and into arguments afterwards: neither changes another result (P10.8, P2).
func TestResults(t *testing.T) {
	first := func() api.TollBook { return book(paid(2, 6), isNew(1, goes)) }
	b := first()
	before := ask(b, 1, 0)
	for _, a := range ask(b, 1, 0) {
		clear(a.list[:cap(a.list)])
		_ = append(a.list, 9)
	}
	if again := ask(b, 1, 0); !reflect.DeepEqual(before, again) {
		t.Errorf("once more: %+v; first %+v", again, before)
	}
	clear(b.Weigh.Wagons)
	clear(b.Weigh.Passes)
	clear(b.Passages)
	ask(full(), 0, 1)
	ask(book(torn()), 0, 0)
	if want := ask(first(), 1, 0); !reflect.DeepEqual(before, want) {
		t.Errorf("behind another book: %+v; first %+v", want, before)
	}
}

// TestNilAndEmpty has nil lists and empty ones (R3).
func TestNilAndEmpty(t *testing.T) {
	one, two := book(), book()
	one.Passages, two.Passages = nil, []api.TollPassage{}
	one.Weigh.Passes, two.Weigh.Passes = nil, []api.WeighPass{}
	if a, b := ask(one, 0, 1), ask(two, 0, 1); !reflect.DeepEqual(a, b) || a["Owes"].e != api.OK || a["Toll"].e != api.ErrTollAsk {
		t.Errorf("nil %+v; empty %+v", a, b)
	}
}
