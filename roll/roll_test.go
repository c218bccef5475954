package roll_test

import (
	"math"
	"reflect"
	"slices"
	"testing"

	"macadam/api"
	"macadam/roll"
)

// The skies, as sets.
const (
	dry    = 1 << api.RollDry
	damp   = 1 << api.RollDamp
	wet    = 1 << api.RollWet
	anySky = dry | damp | wet
)

func to(low, high int) api.Span { return api.Span{Low: low, High: high} }

func just(n int) api.Span { return to(n, n) }

func layer(needs, yards int) api.RollLayer { return api.RollLayer{Needs: needs, Yards: yards} }

func day(wagons api.Span, sky int) api.RollDay { return api.RollDay{Wagons: wagons, Sky: sky} }

func look(day, bound int) api.RollLook { return api.RollLook{Day: day, Bound: bound} }

type change func(b *api.RollBook)

// book is that of the chapter's examples, changed.
func book(changes ...change) api.RollBook {
	b := api.RollBook{
		Layers: []api.RollLayer{layer(5, 4), layer(4, 3)},
		Days:   []api.RollDay{day(to(3, 4), damp), day(to(2, 3), dry|damp), day(just(3), damp|wet), day(just(4), damp)},
	}
	for _, c := range changes {
		c(&b)
	}
	return b
}

func layers(l ...api.RollLayer) change { return func(b *api.RollBook) { b.Layers = l } }

func days(l ...api.RollDay) change { return func(b *api.RollBook) { b.Days = l } }

func looks(l ...api.RollLook) change { return func(b *api.RollBook) { b.Looks = l } }

// early, late and torn are what the chapter calls so.
func early() change { return looks(look(1, 1)) }

func late() change { return looks(look(2, 0)) }

func torn() change { return looks(look(1, 1), look(2, 0)) }

// skies has days of four wagons each.
func skies(l ...int) change {
	return func(b *api.RollBook) {
		b.Days = nil
		for _, sky := range l {
			b.Days = append(b.Days, day(just(4), sky))
		}
	}
}

// dampDays has damp days, of whose wagons all is known.
func dampDays(l ...int) change {
	return func(b *api.RollBook) {
		b.Days = nil
		for _, n := range l {
			b.Days = append(b.Days, day(just(n), damp))
		}
	}
}

// full has as much of everything as is allowed, at its upper limits.
func full(changes ...change) api.RollBook {
	b := api.RollBook{
		Layers: slices.Repeat([]api.RollLayer{layer(30, 50)}, api.RollLayers),
		Days:   slices.Repeat([]api.RollDay{day(to(19, 20), anySky)}, api.RollDays),
		Looks:  slices.Repeat([]api.RollLook{look(4, 2)}, api.RollLooks),
	}
	for _, c := range changes {
		c(&b)
	}
	return b
}

// answer is what a function returns; what does not apply to it is zero.
type answer struct {
	span api.Span
	is   bool
	n    int
	list []int
	e    api.Errno
}

func isNothingBut(a answer, e api.Errno) bool {
	return len(a.list) == 0 && a.span == (api.Span{}) && !a.is && a.n == 0 && a.e == e
}

// ask calls all functions but Check.
func ask(b api.RollBook, day int, look api.RollLook) map[string]answer {
	all := map[string]answer{}
	var a answer
	put := func(name string) { all[name], a = a, answer{} }
	a.is, a.e = roll.Right(b)
	put("Right")
	a.span, a.e = roll.Bound(b, day)
	put("Bound")
	a.n, a.e = roll.Sky(b, day)
	put("Sky")
	a.span, a.e = roll.Wagons(b, day)
	put("Wagons")
	a.span, a.e = roll.Lost(b)
	put("Lost")
	a.span, a.e = roll.Laid(b)
	put("Laid")
	a.n, a.e = roll.Done(b)
	put("Done")
	a.n, a.e = roll.Perhaps(b)
	put("Perhaps")
	a.n, a.e = roll.Water(b)
	put("Water")
	a.is, a.e = roll.Fits(b, look)
	put("Fits")
	a.list, a.e = roll.Wrong(b)
	put("Wrong")
	return all
}

func checkSpan(t *testing.T, what string, got api.Span, e api.Errno, want api.Span) {
	t.Helper()
	if got != want || e != api.OK {
		t.Errorf("%s: %v, %d; want %v", what, got, e, want)
	}
}

func checkNumber(t *testing.T, what string, got int, e api.Errno, want int) {
	t.Helper()
	if got != want || e != api.OK {
		t.Errorf("%s: %d, %d; want %d", what, got, e, want)
	}
}

func checkList(t *testing.T, what string, got []int, e api.Errno, want ...int) {
	t.Helper()
	if !slices.Equal(got, want) || e != api.OK {
		t.Errorf("%s: %v, %d; want %v", what, got, e, want)
	}
}

func checkIs(t *testing.T, what string, got bool, e api.Errno, want bool) {
	t.Helper()
	if got != want || e != api.OK {
		t.Errorf("%s: %v, %d; want %v", what, got, e, want)
	}
}

// none is a day that there is not.
const none = -1

// isDay reports whether a day is the one that is wanted; none is wanted for ErrNone.
func isDay(got int, e api.Errno, want int) bool {
	if want == none {
		return got == 0 && e == api.ErrNone
	}
	return got == want && e == api.OK
}

func checkDay(t *testing.T, what string, got int, e api.Errno, want int) {
	t.Helper()
	if !isDay(got, e, want) {
		t.Errorf("%s: %d, %d; want %d", what, got, e, want)
	}
}

// TestExamples has the examples of the chapter.
func TestExamples(t *testing.T) {
	for n, want := range []api.Span{just(0), to(0, 1), to(0, 1), to(0, 2)} {
		s, e := roll.Bound(book(), n)
		checkSpan(t, "Bound", s, e, want)
	}
	s, e := roll.Bound(book(early()), 2)
	checkSpan(t, "early: Bound 2", s, e, just(1))
	s, e = roll.Bound(book(early()), 3)
	checkSpan(t, "early: Bound 3", s, e, just(2))
	s, e = roll.Bound(book(late()), 3)
	checkSpan(t, "late: Bound 3", s, e, just(0))
	n, e := roll.Sky(book(), 1)
	checkNumber(t, "Sky 1", n, e, 3)
	n, e = roll.Sky(book(late()), 1)
	checkNumber(t, "late: Sky 1", n, e, 1)
	n, e = roll.Sky(book(late()), 2)
	checkNumber(t, "late: Sky 2", n, e, 4)
	s, e = roll.Wagons(book(), 1)
	checkSpan(t, "Wagons 1", s, e, to(2, 3))
	s, e = roll.Lost(book())
	checkSpan(t, "Lost", s, e, to(0, 4))
	s, e = roll.Laid(book())
	checkSpan(t, "Laid", s, e, to(7, 10))
	s, e = roll.Lost(book(early()))
	checkSpan(t, "early: Lost", s, e, to(0, 3))
	s, e = roll.Laid(book(late()))
	checkSpan(t, "late: Laid", s, e, just(8))
}

// TestExamplesOfDays has the examples of the chapter that tell of days and looks.
func TestExamplesOfDays(t *testing.T) {
	n, e := roll.Done(book())
	checkDay(t, "Done", n, e, none)
	n, e = roll.Done(book(early()))
	checkDay(t, "early: Done", n, e, 3)
	n, e = roll.Perhaps(book())
	checkDay(t, "Perhaps", n, e, 3)
	n, e = roll.Perhaps(book(late()))
	checkDay(t, "late: Perhaps", n, e, none)
	n, e = roll.Water(book())
	checkDay(t, "Water", n, e, 1)
	n, e = roll.Water(book(early()))
	checkDay(t, "early: Water", n, e, none)
	is, e := roll.Fits(book(), look(3, 1))
	checkIs(t, "Fits 3: 1", is, e, false)
	is, e = roll.Fits(book(), look(3, 0))
	checkIs(t, "Fits 3: 0", is, e, true)
	is, e = roll.Right(book(torn()))
	checkIs(t, "torn: Right", is, e, false)
	l, e := roll.Wrong(book(torn()))
	checkList(t, "torn: Wrong", l, e, 0)
	if s, e := roll.Lost(book(torn())); s != (api.Span{}) || e != api.ErrRollFalse {
		t.Errorf("torn: Lost: %v, %d", s, e)
	}
}

// TestExampleOfOverview has the seventh example of DOC.md.
func TestExampleOfOverview(t *testing.T) {
	b := book(layers(layer(5, 4)), skies(damp, dry))
	s, e := roll.Bound(b, 1)
	checkSpan(t, "Bound 1", s, e, just(0))
}

// TestCheckLimits has books at the ends of each limit (P7.1).
func TestCheckLimits(t *testing.T) {
	for i, b := range []api.RollBook{
		book(), book(early()), book(late()), book(torn()), full(),
		book(layers(layer(1, 1))), book(layers(layer(30, 50))), book(layers(slices.Repeat([]api.RollLayer{layer(30, 50)}, 4)...)),
		book(days(day(just(0), dry))), book(days(day(to(0, 1), wet))), book(days(day(to(19, 20), damp))), book(days(day(just(20), anySky))),
		book(days(slices.Repeat([]api.RollDay{day(just(20), dry|wet)}, 5)...)),
		book(looks(look(3, 2))), book(looks(look(0, 0))), book(looks(slices.Repeat([]api.RollLook{look(3, 0)}, 4)...)),
		book(layers(layer(5, 4)), looks(look(0, 1))),
	} {
		if e := roll.Check(b); e != api.OK {
			t.Errorf("the valid book %d: %d", i, e)
		}
	}
}

// wrongBooks are books beyond the ends of each limit.
func wrongBooks() []api.RollBook {
	l, d := layer(5, 4), day(just(4), damp)
	changes := []change{
		func(b *api.RollBook) { *b = api.RollBook{} },
		layers(), layers(l, l, l, l, l), days(), days(d, d, d, d, d, d),
		looks(slices.Repeat([]api.RollLook{look(0, 0)}, 5)...),
		layers(l), // with a look that is valid for two layers alone
	}
	far := []int{math.MinInt, math.MinInt + 1, math.MaxInt - 1, math.MaxInt}
	for _, n := range append(far, -1, 0, 31) {
		changes = append(changes, layers(layer(n, 4)), layers(l, layer(n, 4)))
	}
	for _, n := range append(far, -1, 0, 51) {
		changes = append(changes, layers(layer(5, n)), layers(l, layer(5, n)))
	}
	for _, n := range append(far, -1, 21) {
		changes = append(changes, days(day(just(n), damp)), days(d, day(just(n), damp)), days(day(to(n, 20), damp)), days(day(to(0, n), damp)))
	}
	for _, s := range []api.Span{to(1, 0), to(20, 0), to(0, 2), to(18, 20), to(-1, 0), to(20, 21), to(math.MinInt, math.MaxInt), to(math.MaxInt, math.MinInt)} {
		changes = append(changes, days(day(s, damp)), days(d, day(s, damp)))
	}
	for _, n := range append(far, -1, 0, 8) {
		changes = append(changes, days(day(just(4), n)), days(d, day(just(4), n)))
	}
	for _, n := range append(far, -1, 4) {
		changes = append(changes, looks(look(n, 0)), looks(look(0, 0), look(n, 0)))
	}
	for _, n := range append(far, -1, 3) {
		changes = append(changes, looks(look(0, n)), looks(look(0, 0), look(3, n)))
	}
	var all []api.RollBook
	for _, c := range changes {
		all = append(all, book(looks(look(0, 2)), c))
	}
	return all
}

// TestErrRoll has wrong books: all functions return ErrRoll first, and nothing else (P7.1, P1).
func TestErrRoll(t *testing.T) {
	for i, b := range wrongBooks() {
		if e := roll.Check(b); e != api.ErrRoll {
			t.Errorf("the wrong book %d: Check: %d", i, e)
		}
		for _, n := range []int{0, -1, math.MinInt, math.MaxInt} {
			for name, a := range ask(b, n, look(n, n)) {
				if !isNothingBut(a, api.ErrRoll) {
					t.Errorf("the wrong book %d: %s of %d: %+v", i, name, n, a)
				}
			}
		}
	}
}

// TestErrRollAsk has wrong questions: they come before a book that cannot be true (P7.2, P7.6).
func TestErrRollAsk(t *testing.T) {
	for _, b := range []api.RollBook{book(), book(torn()), full(), full(looks(look(0, 1))), book(layers(layer(5, 4)), skies(damp), looks(look(0, 1)))} {
		hold := func(day int, look api.RollLook, names ...string) {
			all := ask(b, day, look)
			for _, name := range names {
				if !isNothingBut(all[name], api.ErrRollAsk) {
					t.Errorf("%s of %d, %+v: %+v", name, day, look, all[name])
				}
			}
		}
		far := []int{-1, math.MinInt, math.MaxInt}
		for _, n := range append(far, len(b.Days)) {
			hold(n, look(n, 0), "Bound", "Sky", "Wagons", "Fits")
		}
		for _, n := range append(far, len(b.Layers)+1) {
			hold(0, look(0, n), "Fits")
		}
	}
}

// TestErrRollFalse has books that cannot be true (P7.1 to P7.6).
func TestErrRollFalse(t *testing.T) {
	for i, b := range []api.RollBook{
		book(torn()), book(looks(look(0, 1))), book(looks(look(3, 1))), book(looks(look(2, 0), look(2, 1))), book(looks(look(1, 1), look(3, 0))),
		book(skies(dry), looks(look(0, 1))), full(looks(look(4, 3))), full(looks(look(0, 1), look(4, 2))),
	} {
		all := ask(b, 0, look(0, 0))
		for _, name := range []string{"Bound", "Sky", "Wagons", "Lost", "Laid", "Done", "Perhaps", "Water", "Fits"} {
			if !isNothingBut(all[name], api.ErrRollFalse) {
				t.Errorf("the torn book %d: %s: %+v", i, name, all[name])
			}
		}
		if a := all["Right"]; a.is || a.e != api.OK {
			t.Errorf("the torn book %d: Right: %+v", i, a)
		}
		if a := all["Wrong"]; len(a.list) == 0 || a.e != api.OK {
			t.Errorf("the torn book %d: Wrong: %+v", i, a)
		}
	}
}

// TestBound has layers that are bound, are not yet, and are lost (P7.2).
func TestBound(t *testing.T) {
	for i, x := range []struct {
		b     api.RollBook
		bound []api.Span
	}{
		// As many wagons as are needed are enough.
		{book(dampDays(4)), []api.Span{just(0)}}, {book(dampDays(5)), []api.Span{just(1)}}, {book(dampDays(6)), []api.Span{just(1)}},
		// Wagons of several days count together.
		{book(dampDays(2, 2, 1, 4)), []api.Span{just(0), just(0), just(1), just(2)}},
		// What wagons are too many for a layer does not roll the next one, which is laid on the next day.
		{book(dampDays(20, 3, 1)), []api.Span{just(1), just(1), just(2)}}, {book(dampDays(4, 4, 3, 1)), []api.Span{just(0), just(1), just(1), just(2)}},
		{book(dampDays(0, 0, 0)), []api.Span{just(0), just(0), just(0)}},
		{book(layers(layer(1, 1)), dampDays(0, 1, 1)), []api.Span{just(0), just(1), just(1)}},
		// What is bound stays so, whatever the sky.
		{book(layers(layer(4, 1)), skies(damp, wet, wet, dry, anySky)), []api.Span{just(1), just(1), just(1), just(1), just(1)}},
		// In the dry nothing binds, but what was rolled stays so; in the wet it is lost.
		{book(skies(damp, dry, dry, damp)), []api.Span{just(0), just(0), just(0), just(1)}},
		{book(skies(damp, wet, damp, damp)), []api.Span{just(0), just(0), just(0), just(1)}},
		{book(skies(dry, dry, dry)), []api.Span{just(0), just(0), just(0)}},
		{book(skies(wet, damp, damp)), []api.Span{just(0), just(0), just(1)}},
		{book(skies(damp, damp, wet, damp)), []api.Span{just(0), just(1), just(1), just(2)}},
		{book(skies(damp, damp, anySky, damp)), []api.Span{just(0), just(1), to(1, 2), just(2)}},
		{book(days(day(to(4, 5), damp), day(just(3), damp))), []api.Span{to(0, 1), just(1)}},
		{book(days(day(to(4, 5), damp), day(just(4), damp))), []api.Span{to(0, 1), to(1, 2)}},
		// A look of a later day tells of an earlier one.
		{book(days(day(to(4, 5), damp), day(just(4), damp)), looks(look(1, 2))), []api.Span{just(1), just(2)}},
		{book(days(day(to(4, 5), damp), day(just(4), damp)), looks(look(1, 1))), []api.Span{just(0), just(1)}},
		{book(days(day(just(5), anySky), day(just(5), anySky), day(just(5), anySky)), looks(look(1, 1))), []api.Span{to(0, 1), just(1), to(1, 2)}},
		{full(), []api.Span{just(0), to(0, 1), just(1), to(1, 2), just(2)}},
		{full(looks()), []api.Span{just(0), to(0, 1), to(0, 1), to(0, 2), to(0, 2)}},
	} {
		for n, want := range x.bound {
			s, e := roll.Bound(x.b, n)
			if s != want || e != api.OK {
				t.Errorf("Bound %d on %d: %v, %d; want %v", i, n, s, e, want)
			}
		}
	}
}

// TestSkyAndWagons has skies and wagons of which looks tell, and of which they do not (P7.2).
func TestSkyAndWagons(t *testing.T) {
	five := day(to(4, 5), anySky)
	for i, x := range []struct {
		b      api.RollBook
		sky    []int
		wagons []api.Span
	}{
		{book(), []int{damp, dry | damp, damp | wet, damp}, []api.Span{to(3, 4), to(2, 3), just(3), just(4)}},
		{book(late()), []int{damp, dry, wet, damp}, []api.Span{to(3, 4), to(2, 3), just(3), just(4)}},
		{book(days(five)), []int{anySky}, []api.Span{to(4, 5)}},
		{book(days(five), looks(look(0, 1))), []int{damp}, []api.Span{just(5)}},
		{book(days(five), looks(look(0, 0))), []int{anySky}, []api.Span{to(4, 5)}},
		{book(days(day(to(4, 5), damp)), looks(look(0, 0))), []int{damp}, []api.Span{just(4)}},
		{book(days(day(to(5, 6), anySky)), looks(look(0, 0))), []int{dry | wet}, []api.Span{to(5, 6)}},
		{book(days(five, five), looks(look(1, 2))), []int{damp, damp}, []api.Span{just(5), to(4, 5)}},
		{book(days(five, five), looks(look(1, 2), look(0, 1))), []int{damp, damp}, []api.Span{just(5), to(4, 5)}},
		{book(days(five, five), looks(look(1, 1), look(0, 1))), []int{damp, dry | wet}, []api.Span{just(5), to(4, 5)}},
		{book(days(day(to(2, 3), damp), day(just(2), dry|damp|wet)), looks(look(1, 1))), []int{damp, damp}, []api.Span{just(3), just(2)}},
		{book(layers(layer(4, 1)), days(five, five), looks(look(0, 1))), []int{damp, anySky}, []api.Span{to(4, 5), to(4, 5)}},
	} {
		for n, want := range x.sky {
			set, e := roll.Sky(x.b, n)
			if set != want || e != api.OK {
				t.Errorf("Sky %d on %d: %d, %d; want %d", i, n, set, e, want)
			}
		}
		for n, want := range x.wagons {
			s, e := roll.Wagons(x.b, n)
			if s != want || e != api.OK {
				t.Errorf("Wagons %d on %d: %v, %d; want %v", i, n, s, e, want)
			}
		}
	}
}

// TestStone has stone that is laid once, and anew after it was lost (P7.3).
func TestStone(t *testing.T) {
	for i, x := range []struct {
		b          api.RollBook
		lost, laid api.Span
	}{
		{book(skies(dry)), just(0), just(4)}, {book(skies(damp)), just(0), just(4)}, {book(skies(wet)), just(4), just(4)},
		// It is laid anew on the next day, if there is one.
		{book(skies(wet, dry)), just(4), just(8)}, {book(skies(wet, wet)), just(8), just(8)}, {book(skies(dry, wet)), just(4), just(4)},
		{book(skies(wet, wet, wet, wet, wet)), just(20), just(20)},
		// A layer that is bound is not lost; the next one is laid on the next day.
		{book(skies(damp, damp)), just(0), just(4)}, {book(skies(damp, damp, dry)), just(0), just(7)}, {book(skies(damp, damp, wet)), just(3), just(7)},
		{book(skies(damp, damp, wet, wet, damp)), just(6), just(13)},
		// Once all layers are bound nothing is laid or lost.
		{book(skies(damp, damp, damp, wet, anySky)), just(0), just(7)}, {book(layers(layer(4, 9)), skies(damp, wet, wet)), just(0), just(9)},
		{book(skies(anySky)), to(0, 4), just(4)}, {book(skies(anySky, anySky)), to(0, 8), to(4, 8)}, {book(skies(damp, damp, anySky)), to(0, 3), just(7)},
		{book(skies(anySky, anySky), looks(look(1, 1))), just(0), just(4)},
		{book(days(day(just(5), anySky), day(just(5), anySky)), looks(look(1, 1))), to(0, 4), to(4, 8)},
		{full(looks()), to(0, 250), to(50, 250)},
		{full(), to(0, 50), to(100, 150)},
	} {
		s, e := roll.Lost(x.b)
		if s != x.lost || e != api.OK {
			t.Errorf("Lost %d: %v, %d; want %v", i, s, e, x.lost)
		}
		s, e = roll.Laid(x.b)
		if s != x.laid || e != api.OK {
			t.Errorf("Laid %d: %v, %d; want %v", i, s, e, x.laid)
		}
	}
}

// TestDone has days on which all layers surely, perhaps, and never are bound (P7.4).
func TestDone(t *testing.T) {
	one := layers(layer(4, 1))
	for i, x := range []struct {
		b             api.RollBook
		done, perhaps int
	}{
		{book(skies(damp)), none, none}, {book(skies(damp, damp)), none, none}, {book(skies(damp, damp, damp)), 2, 2}, {book(skies(damp, damp, damp, anySky)), 2, 2},
		{book(one, skies(damp)), 0, 0}, {book(one, skies(damp, damp)), 0, 0}, {book(one, skies(dry, damp)), 1, 1}, {book(one, skies(wet, damp)), 1, 1},
		{book(one, skies(anySky)), none, 0}, {book(one, skies(anySky, damp)), 1, 0}, {book(one, skies(dry|wet, anySky, damp)), 2, 1}, {book(one, skies(dry|wet, dry|wet)), none, none},
		{book(one, days(day(to(3, 4), damp), day(just(1), damp))), 1, 0},
		{book(one, skies(anySky, anySky), looks(look(1, 1))), 1, 0}, {book(one, skies(anySky, anySky), looks(look(0, 0), look(1, 1))), 1, 1}, {book(one, skies(anySky, anySky), looks(look(1, 0))), none, none},
		{full(layers(layer(20, 1), layer(20, 1)), looks(look(4, 2))), 4, 1}, {full(layers(layer(20, 1), layer(20, 1)), looks(look(3, 1))), none, 4},
	} {
		n, e := roll.Done(x.b)
		if !isDay(n, e, x.done) {
			t.Errorf("Done %d: %d, %d; want %d", i, n, e, x.done)
		}
		n, e = roll.Perhaps(x.b)
		if !isDay(n, e, x.perhaps) {
			t.Errorf("Perhaps %d: %d, %d; want %d", i, n, e, x.perhaps)
		}
	}
}

// TestWater has days on which it helps to water the road, and others (P7.5).
func TestWater(t *testing.T) {
	one := layers(layer(4, 1))
	for i, x := range []struct {
		b    api.RollBook
		want int
	}{
		{book(one, skies(dry)), 0}, {book(one, skies(damp)), none}, {book(one, skies(wet)), none}, {book(one, skies(anySky)), none}, {book(one, skies(dry|damp)), 0}, {book(one, skies(dry|wet)), none},
		// Of several days it is the first one.
		{book(one, skies(dry, dry, dry)), 0}, {book(one, skies(wet, dry, dry)), 1}, {book(one, skies(wet, anySky, dry)), 2}, {book(one, skies(dry, damp)), none},
		// A single day is not enough.
		{book(skies(dry, dry)), none}, {book(skies(wet, dry)), none}, {book(skies(dry, damp)), 0}, {book(skies(dry, wet, dry)), none},
		// What was rolled before a wet day is lost.
		{book(skies(dry, wet, damp, dry)), 3}, {book(skies(dry, damp, wet, damp, dry)), 0}, {book(skies(damp, dry, wet, damp, dry)), 1},
		// What helps more is better, though it comes later.
		{book(layers(layer(6, 1), layer(2, 1)), days(day(just(2), dry), day(just(4), damp), day(just(3), dry), day(just(2), damp))), 0},
		{book(layers(layer(6, 1), layer(2, 1)), days(day(just(1), dry), day(just(4), damp), day(just(3), dry), day(just(2), damp))), 2},
		{book(layers(layer(5, 1), layer(6, 1), layer(3, 1)), days(day(just(1), dry), day(just(5), dry), day(just(4), damp), day(just(4), damp), day(just(3), damp))), 1},
		{book(one, days(day(just(3), dry), day(just(4), dry))), 1}, {book(one, days(day(to(3, 4), dry), day(just(4), dry))), 1}, {book(one, days(day(to(4, 5), dry), day(just(4), dry))), 0},
		// Looks tell what the skies are; they need not be right of the road that is watered.
		{book(one, skies(dry, dry), looks(look(1, 0))), 0}, {book(one, skies(dry|damp, dry|damp), looks(look(0, 0))), 0}, {book(one, skies(anySky, dry), looks(look(0, 1))), none},
		{book(one, skies(anySky, dry), looks(look(0, 0))), 1}, {book(one, skies(dry|wet, dry|damp), looks(look(1, 0))), 1},
	} {
		n, e := roll.Water(x.b)
		if !isDay(n, e, x.want) {
			t.Errorf("Water %d: %d, %d; want %d", i, n, e, x.want)
		}
	}
}

// TestFits has all looks of a day (P7.6).
func TestFits(t *testing.T) {
	four := func(l api.RollLook) change { return looks(l, l, l, l) }
	for i, x := range []struct {
		b    api.RollBook
		day  int
		want []int
	}{
		{book(), 0, []int{0}}, {book(), 1, []int{0, 1}}, {book(), 2, []int{0, 1}}, {book(), 3, []int{0, 2}},
		{book(early()), 0, []int{0}}, {book(early()), 1, []int{1}}, {book(early()), 3, []int{2}}, {book(late()), 3, []int{0}},
		{book(four(look(1, 1))), 3, []int{2}}, {book(four(look(3, 0))), 2, []int{0}}, {book(four(look(3, 0))), 3, []int{0}},
		{book(skies(anySky, anySky, anySky)), 2, []int{0, 1, 2}}, {book(skies(dry|wet, anySky, anySky)), 2, []int{0, 1}},
		{full(), 4, []int{2}}, {full(), 3, []int{1, 2}}, {full(looks()), 4, []int{0, 1, 2}},
	} {
		for bound := range len(x.b.Layers) + 1 {
			is, e := roll.Fits(x.b, look(x.day, bound))
			if is != slices.Contains(x.want, bound) || e != api.OK {
				t.Errorf("Fits %d, %d: %v, %d", i, bound, is, e)
			}
		}
	}
}

// TestWrong has looks that must be wrong: the fewest, and the first of several lists (P7.7, P7.1).
func TestWrong(t *testing.T) {
	for i, x := range []struct {
		b    api.RollBook
		want []int
	}{
		{book(), nil}, {book(early()), nil}, {book(late()), nil}, {full(), nil}, {book(looks(look(1, 1), look(1, 1), look(3, 2))), nil},
		{book(torn()), []int{0}}, {book(looks(look(0, 1))), []int{0}}, {book(looks(look(0, 0), look(0, 1))), []int{1}}, {book(looks(look(3, 1))), []int{0}},
		{book(looks(look(2, 0), look(1, 1))), []int{0}}, {book(looks(look(2, 0), look(1, 1), look(2, 1))), []int{0}}, {book(looks(look(2, 0), look(1, 1), look(3, 0))), []int{1}},
		// A single later look is better than two earlier ones.
		{book(looks(look(1, 1), look(2, 1), look(3, 0))), []int{2}}, {book(looks(look(1, 1), look(2, 1), look(3, 0), look(2, 0))), []int{0, 1}}, {book(looks(look(3, 0), look(2, 0), look(1, 1), look(2, 1))), []int{0, 1}},
		{book(looks(look(3, 0), look(1, 1), look(2, 0), look(2, 1))), []int{0, 2}}, {book(looks(look(0, 1), look(3, 1))), []int{0, 1}}, {book(looks(look(0, 1), look(0, 2), look(1, 2), look(3, 1))), []int{0, 1, 2, 3}},
		{book(looks(look(0, 1), look(1, 1), look(2, 0), look(3, 1))), []int{0, 1, 3}}, {full(looks(slices.Repeat([]api.RollLook{look(4, 4)}, 4)...)), []int{0, 1, 2, 3}},
	} {
		l, e := roll.Wrong(x.b)
		if !slices.Equal(l, x.want) || e != api.OK {
			t.Errorf("Wrong %d: %v, %d; want %v", i, l, e, x.want)
		}
		is, e := roll.Right(x.b)
		if is != (len(x.want) == 0) || e != api.OK {
			t.Errorf("Right %d: %v, %d", i, is, e)
		}
	}
}

func cloneBook(b api.RollBook) api.RollBook {
	return api.RollBook{Layers: slices.Clone(b.Layers), Days: slices.Clone(b.Days), Looks: slices.Clone(b.Looks)}
}

// TestArguments asks with lists behind whose ends the caller keeps something (P7.8).
func TestArguments(t *testing.T) {
	for _, all := range []api.RollBook{book(torn()), full(), book(skies(anySky, anySky), looks(look(0, 0), look(1, 1), look(1, 0)))} {
		for count := range len(all.Looks) + 1 {
			kept := cloneBook(all)
			b := kept
			b.Looks = kept.Looks[:count]
			b.Days = kept.Days[:2]
			b.Layers = kept.Layers[:1]
			roll.Check(b)
			ask(b, 0, look(0, 0))
			b.Days, b.Layers = kept.Days, kept.Layers
			ask(b, 1, look(1, 1))
			if !reflect.DeepEqual(kept, all) {
				t.Errorf("with %d looks: %+v", count, kept)
			}
		}
	}
}

// TestResults writes into results, and behind their ends, and into arguments afterwards: neither changes another result (P7.8, P2).
func TestResults(t *testing.T) {
	b := book(looks(look(0, 1), look(0, 2)))
	one, _ := roll.Wrong(b)
	two, _ := roll.Wrong(b)
	clear(one[:cap(one)])
	_ = append(one[:1], 7)
	b.Looks[0].Bound, b.Looks[1].Bound = 0, 0
	checkList(t, "Wrong", two, api.OK, 0, 1)
	two, e := roll.Wrong(b)
	checkList(t, "Wrong of another book", two, e)
	before := ask(book(), 1, look(3, 2))
	ask(book(torn()), 1, look(3, 2))
	ask(full(), 1, look(3, 2))
	if again := ask(book(), 1, look(3, 2)); !reflect.DeepEqual(before, again) {
		t.Errorf("once more: %+v; first %+v", again, before)
	}
}

// TestNilAndEmpty has nil lists and empty ones (R3).
func TestNilAndEmpty(t *testing.T) {
	one, two := book(), book()
	two.Looks = []api.RollLook{}
	if a, b := ask(one, 0, look(0, 0)), ask(two, 0, look(0, 0)); !reflect.DeepEqual(a, b) {
		t.Errorf("nil %+v; empty %+v", a, b)
	}
	for i, c := range []change{func(b *api.RollBook) { b.Layers = []api.RollLayer{} }, func(b *api.RollBook) { b.Days = []api.RollDay{} }} {
		if e := roll.Check(book(c)); e != api.ErrRoll {
			t.Errorf("the empty list %d: %d", i, e)
		}
	}
}
