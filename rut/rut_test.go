package rut_test

import (
	"math"
	"slices"
	"testing"

	"macadam/api"
	"macadam/rut"
)

func to(low, high int) api.Span { return api.Span{Low: low, High: high} }

func just(n int) api.Span { return to(n, n) }

func day(narrow, broad, frost int) api.RutDay {
	return api.RutDay{Narrow: narrow, Broad: broad, Frost: frost}
}

func staff(mile, day, read, wrong int) api.RutStaff {
	return api.RutStaff{Mile: mile, Day: day, Read: read, Error: wrong}
}

func mend(mile, day int) api.RutMend { return api.RutMend{Mile: mile, Day: day} }

type change func(b *api.RutBook)

// book is that of the chapter's examples, changed.
func book(changes ...change) api.RutBook {
	b := api.RutBook{
		Miles: []api.Span{to(10, 12), just(8)},
		Wears: [3]api.Span{to(1, 2), to(0, 1), to(3, 4)},
		Days:  []api.RutDay{day(2, 1, api.RutNone), day(1, 2, api.RutPerhaps), day(3, 0, api.RutSurely)},
		Mends: []api.RutMend{mend(1, 2)},
		Act:   20,
	}
	for _, c := range changes {
		c(&b)
	}
	return b
}

func miles(l ...api.Span) change { return func(b *api.RutBook) { b.Miles = l } }

func wear(kind int, s api.Span) change { return func(b *api.RutBook) { b.Wears[kind] = s } }

func days(l ...api.RutDay) change { return func(b *api.RutBook) { b.Days = l } }

func mends(l ...api.RutMend) change { return func(b *api.RutBook) { b.Mends = l } }

func staffs(l ...api.RutStaff) change { return func(b *api.RutBook) { b.Staffs = l } }

func act(n int) change { return func(b *api.RutBook) { b.Act = n } }

func measured() change { return staffs(staff(0, 1, 24, 0)) }

func torn() change { return staffs(staff(0, 1, 24, 0), staff(1, 1, 18, 1)) }

// icy has one mile and three nights of perhaps frost, which costs 3; nothing else costs anything.
func icy(l ...api.RutStaff) api.RutBook {
	return api.RutBook{
		Miles: []api.Span{just(0)}, Wears: [3]api.Span{just(0), just(0), just(3)},
		Days:   []api.RutDay{day(9, 9, api.RutPerhaps), day(0, 0, api.RutPerhaps), day(0, 0, api.RutPerhaps)},
		Staffs: l, Act: 5,
	}
}

// full has as much of everything as is allowed, at its upper limits.
func full(changes ...change) api.RutBook {
	b := api.RutBook{
		Miles: slices.Repeat([]api.Span{to(57, 60)}, api.RutMiles),
		Wears: [3]api.Span{to(3, 4), to(3, 4), to(3, 4)},
		Days:  slices.Repeat([]api.RutDay{day(9, 9, api.RutPerhaps)}, api.RutDays),
		Mends: slices.Repeat([]api.RutMend{mend(3, 0)}, api.RutMends),
		Act:   600,
	}
	for range api.RutStaffs {
		b.Staffs = append(b.Staffs, staff(0, 0, 122, 5))
	}
	for _, c := range changes {
		c(&b)
	}
	return b
}

// answer is what a function returns; what does not apply to it is zero.
type answer struct {
	span  api.Span
	n, m  int
	is    bool
	e     api.Errno
	empty bool
}

// ask calls all functions; the functions that ask are asked with these numbers.
func ask(b api.RutBook, mile, day, kind int, s api.RutStaff) map[string]answer {
	all := map[string]answer{}
	var a answer
	put := func(name string) { all[name], a = a, answer{} }
	a.is, a.e = rut.Right(b)
	put("Right")
	a.span, a.e = rut.Deep(b, mile, day)
	put("Deep")
	a.span, a.e = rut.Wears(b, kind)
	put("Wears")
	a.n, a.e = rut.Frost(b, day)
	put("Frost")
	a.n, a.e = rut.Worse(b, mile)
	put("Worse")
	a.n, a.e = rut.Surely(b, mile)
	put("Surely")
	l, e := rut.Bad(b, day)
	a.empty, a.e = len(l) == 0, e
	put("Bad")
	a.n, a.m, a.e = rut.First(b)
	put("First")
	a.is, a.e = rut.Fits(b, s)
	put("Fits")
	l, e = rut.Wrong(b)
	a.empty, a.e = len(l) == 0, e
	put("Wrong")
	return all
}

func checkSpan(t *testing.T, what string, got api.Span, e api.Errno, want api.Span) {
	t.Helper()
	if got != want || e != api.OK {
		t.Errorf("%s: %v, %d; want %v", what, got, e, want)
	}
}

func checkNumber(t *testing.T, what string, got int, e api.Errno, want int, wantE api.Errno) {
	t.Helper()
	if got != want || e != wantE {
		t.Errorf("%s: %d, %d; want %d, %d", what, got, e, want, wantE)
	}
}

func checkList(t *testing.T, what string, got []int, e api.Errno, want ...int) {
	t.Helper()
	if !slices.Equal(got, want) || e != api.OK {
		t.Errorf("%s: %v, %d; want %v", what, got, e, want)
	}
}

func checkIs(t *testing.T, what string, got bool, e api.Errno, want bool) {
	t.Helper()
	if got != want || e != api.OK {
		t.Errorf("%s: %v, %d; want %v", what, got, e, want)
	}
}

// TestExamples has the examples of the chapter.
func TestExamples(t *testing.T) {
	deep := func(b api.RutBook, mile, day, low, high int) {
		t.Helper()
		s, e := rut.Deep(b, mile, day)
		checkSpan(t, "Deep", s, e, to(low, high))
	}
	deep(book(), 0, 0, 12, 17)
	deep(book(), 0, 1, 13, 25)
	deep(book(), 0, 2, 19, 35)
	deep(book(), 1, 1, 11, 21)
	deep(book(), 1, 2, 6, 10)
	deep(book(measured()), 1, 1, 20, 21)
	deep(book(measured()), 0, 0, 16, 17)
	deep(book(measured()), 0, 2, 33, 34)

	wears := func(b api.RutBook, kind, low, high int) {
		t.Helper()
		s, e := rut.Wears(b, kind)
		checkSpan(t, "Wears", s, e, to(low, high))
	}
	wears(book(), 0, 1, 2)
	wears(book(measured()), 0, 2, 2)
	wears(book(measured()), 1, 1, 1)
	wears(book(measured()), 2, 3, 4)

	number := func(f func(api.RutBook, int) (int, api.Errno), b api.RutBook, of, want int, wantE api.Errno) {
		t.Helper()
		n, e := f(b, of)
		checkNumber(t, "number", n, e, want, wantE)
	}
	number(rut.Frost, book(), 1, api.RutPerhaps, api.OK)
	number(rut.Frost, book(measured()), 1, api.RutSurely, api.OK)
	number(rut.Worse, book(), 0, 1, api.OK)
	number(rut.Worse, book(), 1, 1, api.OK)
	number(rut.Surely, book(), 0, 0, api.ErrNone)
	number(rut.Surely, book(measured()), 0, 1, api.OK)

	l, e := rut.Bad(book(), 0)
	checkList(t, "Bad 0", l, e)
	l, e = rut.Bad(book(), 1)
	checkList(t, "Bad 1", l, e, 0, 1)
	l, e = rut.Bad(book(), 2)
	checkList(t, "Bad 2", l, e, 0)
	if mile, day, e := rut.First(book()); mile != 0 || day != 1 || e != api.OK {
		t.Errorf("First: %d, %d, %d", mile, day, e)
	}

	is, e := rut.Fits(book(measured()), staff(1, 1, 21, 0))
	checkIs(t, "Fits 21", is, e, true)
	is, e = rut.Fits(book(measured()), staff(1, 1, 19, 0))
	checkIs(t, "Fits 19", is, e, false)
	is, e = rut.Right(book(torn()))
	checkIs(t, "Right", is, e, false)
	l, e = rut.Wrong(book(torn()))
	checkList(t, "Wrong", l, e, 0)
	if s, e := rut.Deep(book(torn()), 0, 0); s != (api.Span{}) || e != api.ErrRutFalse {
		t.Errorf("torn: Deep: %v, %d", s, e)
	}
}

// TestExampleOfOverview has the first example of DOC.md.
func TestExampleOfOverview(t *testing.T) {
	b := api.RutBook{Miles: []api.Span{to(10, 12)}, Wears: [3]api.Span{to(1, 2)}, Days: []api.RutDay{day(2, 0, api.RutNone)}}
	s, e := rut.Deep(b, 0, 0)
	checkSpan(t, "Deep", s, e, to(12, 16))
}

// TestCheckLimits has books at the ends of each limit (P1.1).
func TestCheckLimits(t *testing.T) {
	one := []api.RutDay{day(0, 0, api.RutNone)}
	for i, b := range []api.RutBook{
		book(), book(measured()), book(torn()), icy(), full(), book(mends()),
		{Miles: []api.Span{{}}, Days: one},
		book(miles(just(0), just(60), to(0, 3), to(57, 60))),
		book(wear(0, just(0)), wear(1, just(4)), wear(2, to(0, 1))), book(wear(0, to(3, 4))),
		book(days(slices.Repeat(one, 6)...)), book(days(day(9, 9, api.RutSurely), one[0], one[0])), book(days(one[0]), mends()),
		book(mends(slices.Repeat([]api.RutMend{mend(0, 0)}, 6)...)), book(mends(mend(1, 2), mend(0, 0))),
		book(act(0)), book(act(600)),
		book(staffs(staff(0, 0, 0, 0), staff(1, 2, 600, 5))), book(staffs(make([]api.RutStaff, 5)...)),
	} {
		if e := rut.Check(b); e != api.OK {
			t.Errorf("the valid book %d: %d", i, e)
		}
	}
}

// wrongBooks are books beyond the ends of each limit.
func wrongBooks() []api.RutBook {
	changes := []change{
		func(b *api.RutBook) { *b = api.RutBook{} },
		miles(), miles(make([]api.Span, 5)...), mends(make([]api.RutMend, 7)...), staffs(make([]api.RutStaff, 6)...),
		days(), days(make([]api.RutDay, 7)...),
		act(-1), act(601), act(math.MinInt), act(math.MaxInt),
	}
	for _, s := range []api.Span{to(-1, 0), to(-1, -1), just(61), to(60, 61), to(0, 4), to(10, 14), to(12, 10), to(1, 0), to(math.MinInt, math.MaxInt), to(math.MaxInt, math.MinInt), to(math.MinInt, 0), to(0, math.MaxInt)} {
		changes = append(changes, miles(s, just(8)), miles(just(8), s))
	}
	for kind := range 3 {
		for _, s := range []api.Span{to(-1, 0), to(-1, -1), just(5), to(4, 5), to(0, 2), to(1, 0), to(math.MinInt, math.MaxInt), to(math.MaxInt, math.MinInt)} {
			changes = append(changes, wear(kind, s))
		}
	}
	ok := day(0, 0, api.RutNone)
	for _, n := range []int{-1, 10, math.MinInt, math.MaxInt} {
		changes = append(changes, days(day(n, 0, 0), ok, ok), days(ok, ok, day(0, n, 0)), days(ok, day(0, 0, n), ok))
	}
	changes = append(changes, days(day(0, 0, 3), ok, ok))
	for _, mile := range []int{-1, 2, math.MinInt, math.MaxInt} {
		changes = append(changes, mends(mend(0, 0), mend(mile, 0)), staffs(staff(0, 0, 0, 0), staff(mile, 0, 0, 0)))
	}
	for _, day := range []int{-1, 3, math.MinInt, math.MaxInt} {
		changes = append(changes, mends(mend(0, day)), staffs(staff(0, day, 0, 0)))
	}
	for _, read := range []int{-1, 601, math.MinInt, math.MaxInt} {
		changes = append(changes, staffs(staff(0, 0, read, 0)))
	}
	for _, wrong := range []int{-1, 6, math.MinInt, math.MaxInt} {
		changes = append(changes, staffs(staff(0, 0, 0, wrong)))
	}
	var l []api.RutBook
	for _, c := range changes {
		l = append(l, book(c))
	}
	return l
}

// TestErrRut has wrong books: all functions return ErrRut first, and nothing else (P1.1, P1).
func TestErrRut(t *testing.T) {
	for i, b := range wrongBooks() {
		if e := rut.Check(b); e != api.ErrRut {
			t.Errorf("the wrong book %d: Check: %d", i, e)
		}
		for _, n := range []int{0, -1, math.MinInt, math.MaxInt} {
			for name, a := range ask(b, n, n, n, staff(n, n, n, n)) {
				if a.empty = false; a != (answer{e: api.ErrRut}) {
					t.Errorf("the wrong book %d: %s of %d: %+v", i, name, n, a)
				}
			}
		}
	}
}

// TestErrRutAsk has wrong questions: they come before a book that cannot be true (P1.2 to P1.6).
func TestErrRutAsk(t *testing.T) {
	for _, b := range []api.RutBook{book(), book(torn()), full(staffs(staff(0, 0, 0, 0)))} {
		for _, n := range []int{-1, 7, math.MinInt, math.MaxInt} {
			all := ask(b, n, n, n, staff(n, n, n, n))
			for _, name := range []string{"Deep", "Wears", "Frost", "Worse", "Surely", "Bad", "Fits"} {
				a := all[name]
				if a.empty = false; a != (answer{e: api.ErrRutAsk}) {
					t.Errorf("%s of %d: %+v", name, n, a)
				}
			}
		}
	}
	for _, x := range []struct{ mile, day int }{{2, 0}, {-1, 0}, {0, 3}, {0, -1}} {
		if s, e := rut.Deep(book(torn()), x.mile, x.day); s != (api.Span{}) || e != api.ErrRutAsk {
			t.Errorf("Deep of %d on %d: %v, %d", x.mile, x.day, s, e)
		}
	}
	if _, e := rut.Wears(book(torn()), 3); e != api.ErrRutAsk {
		t.Errorf("Wears 3: %d", e)
	}
	for _, s := range []api.RutStaff{staff(2, 0, 0, 0), staff(-1, 0, 0, 0), staff(0, 3, 0, 0), staff(0, -1, 0, 0), staff(0, 0, 601, 0), staff(0, 0, -1, 0), staff(0, 0, 0, 6), staff(0, 0, 0, -1)} {
		if is, e := rut.Fits(book(torn()), s); is || e != api.ErrRutAsk {
			t.Errorf("Fits %v: %v, %d", s, is, e)
		}
	}
}

// TestErrRutFalse has books that cannot be true (P1.1 to P1.7).
func TestErrRutFalse(t *testing.T) {
	for i, b := range []api.RutBook{
		book(torn()), book(staffs(staff(0, 0, 18, 0))), book(staffs(staff(0, 0, 11, 0))), book(staffs(staff(1, 2, 11, 0))),
		icy(staff(0, 2, 4, 0)), icy(staff(0, 0, 3, 0), staff(0, 1, 0, 0)), book(act(0), torn()), book(act(600), torn()),
	} {
		all := ask(b, 0, 0, 0, staff(0, 0, 15, 0))
		for _, name := range []string{"Deep", "Wears", "Frost", "Worse", "Surely", "Bad", "First", "Fits"} {
			a := all[name]
			if a.empty = false; a != (answer{e: api.ErrRutFalse}) {
				t.Errorf("the torn book %d: %s: %+v", i, name, a)
			}
		}
		if all["Right"] != (answer{}) || all["Wrong"] != (answer{}) {
			t.Errorf("the torn book %d: Right %+v, Wrong %+v", i, all["Right"], all["Wrong"])
		}
	}
}

// TestDeep has mends, and staffs that tell of other days and miles (P1.2).
func TestDeep(t *testing.T) {
	for i, x := range []struct {
		b         api.RutBook
		mile, day int
		want      api.Span
	}{
		{book(), 1, 0, to(10, 13)},
		{book(mends()), 1, 2, to(17, 31)},
		{book(mends(mend(0, 0))), 0, 0, to(2, 5)},
		{book(mends(mend(0, 0), mend(0, 0))), 0, 0, to(2, 5)},
		{book(mends(mend(0, 0))), 1, 0, to(10, 13)},
		{book(mends(mend(0, 1), mend(0, 0))), 0, 1, to(1, 8)},
		{book(mends(mend(0, 1), mend(0, 0))), 0, 2, to(7, 18)},
		{book(mends(mend(0, 2), mend(0, 0))), 0, 1, to(3, 13)},
		{book(measured()), 1, 0, just(13)},
		{book(measured()), 1, 2, to(9, 10)},
		{book(staffs(staff(1, 2, 6, 0))), 0, 0, to(12, 15)},
		{book(staffs(staff(0, 0, 12, 0))), 0, 2, to(19, 24)},
		{book(staffs(staff(0, 0, 11, 1))), 0, 0, just(12)},
		{icy(), 0, 2, to(0, 9)},
		{icy(staff(0, 1, 3, 0)), 0, 0, to(0, 3)},
		{icy(staff(0, 1, 3, 0)), 0, 2, to(3, 6)},
		{icy(staff(0, 2, 8, 1)), 0, 0, just(3)},
		{icy(staff(0, 2, 5, 1)), 0, 1, to(3, 6)},
		{full(), 0, 0, to(117, 127)},
		{full(staffs()), 0, 5, to(57+6*54, 60+6*76)},
		{full(staffs()), 3, 5, to(6*54, 6*76)},
	} {
		s, e := rut.Deep(x.b, x.mile, x.day)
		if s != x.want || e != api.OK {
			t.Errorf("Deep %d: %v, %d; want %v", i, s, e, x.want)
		}
	}
}

// TestWearsAndFrost has what staffs tell of wheels and nights (P1.2, P1.3).
func TestWearsAndFrost(t *testing.T) {
	for i, x := range []struct {
		b     api.RutBook
		wears [3]api.Span
		frost []int
	}{
		{book(), [3]api.Span{to(1, 2), to(0, 1), to(3, 4)}, []int{0, 1, 2}},
		{book(measured()), [3]api.Span{just(2), just(1), to(3, 4)}, []int{0, 2, 2}},
		{book(staffs(staff(1, 2, 6, 0))), [3]api.Span{just(1), to(0, 1), just(3)}, []int{0, 1, 2}},
		{book(staffs(staff(1, 1, 11, 0))), [3]api.Span{just(1), just(0), to(3, 4)}, []int{0, 0, 2}},
		{icy(), [3]api.Span{just(0), just(0), just(3)}, []int{1, 1, 1}},
		{icy(staff(0, 2, 9, 0)), [3]api.Span{just(0), just(0), just(3)}, []int{2, 2, 2}},
		{icy(staff(0, 1, 0, 0)), [3]api.Span{just(0), just(0), just(3)}, []int{0, 0, 1}},
		{icy(staff(0, 1, 3, 0), staff(0, 0, 3, 0)), [3]api.Span{just(0), just(0), just(3)}, []int{2, 0, 1}},
		{book(wear(0, just(0)), wear(1, just(0)), wear(2, just(0))), [3]api.Span{}, []int{0, 1, 2}},
	} {
		for kind, want := range x.wears {
			s, e := rut.Wears(x.b, kind)
			if s != want || e != api.OK {
				t.Errorf("Wears %d of %d: %v, %d; want %v", i, kind, s, e, want)
			}
		}
		for day, want := range x.frost {
			n, e := rut.Frost(x.b, day)
			if n != want || e != api.OK {
				t.Errorf("Frost %d of %d: %d, %d; want %d", i, day, n, e, want)
			}
		}
	}
}

// TestWorseAndSurely has acts beside both ends of how deep a rut is (P1.4).
func TestWorseAndSurely(t *testing.T) {
	for i, x := range []struct {
		b           api.RutBook
		mile        int
		worse, sure int
		e, f        api.Errno
	}{
		{book(), 1, 1, 0, api.OK, api.ErrNone},
		{book(measured()), 1, 1, 0, api.OK, api.ErrNone},
		{book(act(17)), 0, 1, 2, api.OK, api.OK},
		{book(act(16)), 0, 0, 2, api.OK, api.OK},
		{book(act(12)), 0, 0, 1, api.OK, api.OK},
		{book(act(11)), 0, 0, 0, api.OK, api.OK},
		{book(act(34)), 0, 2, 0, api.OK, api.ErrNone},
		{book(act(35)), 0, 0, 0, api.ErrNone, api.ErrNone},
		{book(act(9)), 1, 0, 0, api.OK, api.OK},
		{book(act(10)), 1, 0, 1, api.OK, api.OK},
		{book(act(18)), 0, 1, 2, api.OK, api.OK},
		{book(act(9), mends(mend(1, 0), mend(0, 1))), 1, 1, 0, api.OK, api.ErrNone},
		{book(act(8), mends(mend(1, 0), mend(0, 1))), 1, 1, 2, api.OK, api.OK},
		{book(act(10), mends(mend(0, 0), mend(0, 1), mend(0, 2))), 0, 0, 0, api.ErrNone, api.ErrNone},
		{icy(), 0, 1, 0, api.OK, api.ErrNone},
		{icy(staff(0, 2, 9, 0)), 0, 1, 1, api.OK, api.OK},
		{icy(staff(0, 1, 3, 0)), 0, 2, 0, api.OK, api.ErrNone},
	} {
		n, e := rut.Worse(x.b, x.mile)
		m, f := rut.Surely(x.b, x.mile)
		if n != x.worse || e != x.e || m != x.sure || f != x.f {
			t.Errorf("%d: Worse %d, %d; Surely %d, %d", i, n, e, m, f)
		}
	}
}

// TestBadAndFirst has several miles and days that are bad (P1.5).
func TestBadAndFirst(t *testing.T) {
	for i, x := range []struct {
		b         api.RutBook
		bad       [][]int
		mile, day int
		e         api.Errno
	}{
		{book(measured()), [][]int{nil, {0, 1}, {0}}, 0, 1, api.OK},
		{book(act(12)), [][]int{{0, 1}, {0, 1}, {0}}, 0, 0, api.OK},
		{book(act(34)), [][]int{nil, nil, {0}}, 0, 2, api.OK},
		{book(act(35)), [][]int{nil, nil, nil}, 0, 0, api.ErrNone},
		{book(mends(mend(0, 1))), [][]int{nil, {1}, {1}}, 1, 1, api.OK},
		{book(mends(mend(0, 0), mend(1, 1)), act(5)), [][]int{{1}, {0, 1}, {0, 1}}, 1, 0, api.OK},
		{icy(), [][]int{nil, {0}, {0}}, 0, 1, api.OK},
		{full(staffs(), act(500)), [][]int{nil, nil, nil, nil, nil, {0, 1, 2}}, 0, 5, api.OK},
	} {
		for day, want := range x.bad {
			l, e := rut.Bad(x.b, day)
			if !slices.Equal(l, want) || e != api.OK {
				t.Errorf("Bad %d of %d: %v, %d; want %v", i, day, l, e, want)
			}
		}
		if mile, day, e := rut.First(x.b); mile != x.mile || day != x.day || e != x.e {
			t.Errorf("First %d: %d, %d, %d", i, mile, day, e)
		}
	}
}

// TestFits has staffs at, beside and between what can be read; a sixth staff is asked for too (P1.6).
func TestFits(t *testing.T) {
	six := book(staffs(slices.Repeat([]api.RutStaff{staff(0, 1, 24, 0)}, 5)...))
	for i, x := range []struct {
		b    api.RutBook
		s    api.RutStaff
		want bool
	}{
		{book(measured()), staff(1, 1, 19, 1), true},
		{book(measured()), staff(1, 1, 22, 0), false},
		{book(), staff(0, 0, 12, 0), true},
		{book(), staff(0, 0, 11, 0), false},
		{book(), staff(0, 0, 11, 1), true},
		{book(), staff(0, 0, 17, 0), true},
		{book(), staff(0, 0, 18, 0), false},
		{book(), staff(0, 0, 18, 1), true},
		{book(), staff(0, 0, 22, 5), true},
		{book(), staff(0, 0, 23, 5), false},
		{book(), staff(1, 2, 6, 0), true},
		{book(), staff(1, 2, 5, 0), false},
		{icy(), staff(0, 2, 4, 0), false},
		{icy(), staff(0, 2, 4, 1), true},
		{icy(staff(0, 1, 0, 0)), staff(0, 0, 3, 0), false},
		{six, staff(1, 1, 21, 0), true},
		{six, staff(1, 1, 19, 0), false},
		{full(), staff(0, 0, 127, 0), true},
		{full(), staff(0, 0, 128, 0), false},
	} {
		is, e := rut.Fits(x.b, x.s)
		if is != x.want || e != api.OK {
			t.Errorf("Fits %d: %v, %d", i, is, e)
		}
	}
}

// TestWrong has staffs that must be wrong: the fewest, and the first of several lists (P1.7, P1.1).
func TestWrong(t *testing.T) {
	for i, x := range []struct {
		b    api.RutBook
		want []int
	}{
		{book(), nil},
		{book(measured()), nil},
		{book(staffs(staff(0, 0, 18, 0))), []int{0}},
		{book(staffs(staff(0, 1, 24, 0), staff(1, 1, 18, 1), staff(1, 0, 13, 0))), []int{0}},
		{book(staffs(staff(0, 1, 24, 0), staff(1, 0, 13, 0), staff(1, 1, 18, 1))), []int{0}},
		{book(staffs(staff(0, 1, 24, 0), staff(0, 0, 18, 0))), []int{1}},
		{icy(staff(0, 0, 3, 0), staff(0, 1, 0, 0)), []int{0}},
		{icy(staff(0, 0, 3, 0), staff(0, 1, 0, 0), staff(0, 0, 4, 1)), []int{1}},
		{icy(staff(0, 0, 1, 0), staff(0, 1, 9, 0)), []int{0, 1}},
		{icy(staff(0, 0, 3, 0), staff(0, 1, 6, 0), staff(0, 2, 9, 0)), nil},
		{icy(staff(0, 0, 0, 0), staff(0, 0, 3, 0), staff(0, 1, 0, 0), staff(0, 1, 6, 0)), []int{0, 2}},
		{icy(staff(0, 0, 3, 0), staff(0, 0, 3, 0), staff(0, 0, 0, 0)), []int{2}},
		{icy(staff(0, 0, 1, 0), staff(0, 0, 3, 0), staff(0, 0, 0, 0), staff(0, 0, 3, 0), staff(0, 0, 2, 0)), []int{0, 2, 4}},
		{icy(slices.Repeat([]api.RutStaff{staff(0, 0, 600, 5)}, 5)...), []int{0, 1, 2, 3, 4}},
	} {
		l, e := rut.Wrong(x.b)
		if !slices.Equal(l, x.want) || e != api.OK {
			t.Errorf("Wrong %d: %v, %d; want %v", i, l, e, x.want)
		}
		is, e := rut.Right(x.b)
		if is != (len(x.want) == 0) || e != api.OK {
			t.Errorf("Right %d: %v, %d", i, is, e)
		}
	}
}

func cloneBook(b api.RutBook) api.RutBook {
	b.Miles, b.Days, b.Mends, b.Staffs = slices.Clone(b.Miles), slices.Clone(b.Days), slices.Clone(b.Mends), slices.Clone(b.Staffs)
	return b
}

// TestArguments asks with lists behind whose ends the caller keeps something (P1.8).
func TestArguments(t *testing.T) {
	all := []api.RutStaff{staff(0, 1, 24, 0), staff(1, 1, 18, 1), staff(0, 0, 7, 3)}
	for n := range all {
		kept := slices.Clone(all)
		b := book(staffs(kept[:n]...))
		b.Staffs = kept[:n]
		before := cloneBook(b)
		rut.Check(b)
		ask(b, 1, 2, 1, staff(1, 2, 8, 1))
		if !slices.Equal(kept, all) {
			t.Errorf("with %d staffs: %v", n, kept)
		}
		if !slices.Equal(b.Miles, before.Miles) || !slices.Equal(b.Days, before.Days) || !slices.Equal(b.Mends, before.Mends) {
			t.Errorf("with %d staffs: %v", n, b)
		}
	}
}

// TestResults writes into results, and behind their ends, and into arguments afterwards: neither changes another result (P1.8, P2).
func TestResults(t *testing.T) {
	b := book(act(12))
	one, _ := rut.Bad(b, 1)
	two, _ := rut.Bad(b, 1)
	clear(one[:cap(one)])
	_ = append(one[:1], 7)
	checkList(t, "Bad", two, api.OK, 0, 1)
	b = icy(staff(0, 0, 1, 0), staff(0, 1, 9, 0))
	one, _ = rut.Wrong(b)
	two, _ = rut.Wrong(b)
	one[0], one[1] = 9, 9
	b.Staffs[0], b.Staffs[1] = staff(0, 0, 0, 0), staff(0, 0, 0, 0)
	checkList(t, "Wrong", two, api.OK, 0, 1)
	two, e := rut.Wrong(b)
	checkList(t, "Wrong of another book", two, e)
	for range 3 {
		s, e := rut.Deep(book(measured()), 0, 0)
		checkSpan(t, "Deep once more", s, e, to(16, 17))
		rut.Deep(book(torn()), 0, 0)
	}
}
