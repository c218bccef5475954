package stone_test

import (
	"math"
	"reflect"
	"slices"
	"testing"

	"macadam/api"
	"macadam/stone"
)

const out = api.StoneOut

func to(low, high int) api.Span { return api.Span{Low: low, High: high} }

func just(n int) api.Span { return to(n, n) }

func heap(first, last api.Span) api.StoneHeap { return api.StoneHeap{First: first, Last: last} }

func move(from, to, carter, told int) api.StoneMove {
	return api.StoneMove{From: from, To: to, Carter: carter, Told: told}
}

type change func(b *api.StoneBook)

// book is that of the chapter's examples, changed.
func book(changes ...change) api.StoneBook {
	b := api.StoneBook{
		Heaps: []api.StoneHeap{heap(to(10, 12), to(2, 3)), heap(just(5), to(4, 6))},
		Moves: []api.StoneMove{move(out, 0, 0, 4), move(0, 1, 1, 6), move(0, out, 1, 5), move(1, out, 0, 6)},
		Lies:  [4]int{1, 2, 0, 0},
	}
	for _, c := range changes {
		c(&b)
	}
	return b
}

func heaps(l ...api.StoneHeap) change { return func(b *api.StoneBook) { b.Heaps = l } }

func moves(l ...api.StoneMove) change { return func(b *api.StoneBook) { b.Moves = l } }

func first(n int, s api.Span) change { return func(b *api.StoneBook) { b.Heaps[n].First = s } }

func last(n int, s api.Span) change { return func(b *api.StoneBook) { b.Heaps[n].Last = s } }

func told(n, yards int) change { return func(b *api.StoneBook) { b.Moves[n].Told = yards } }

func lies(l ...int) change { return func(b *api.StoneBook) { b.Lies = [4]int(l) } }

// filled is the book whose heap 1 is left with 6: the chapter calls it full.
func filled() change { return last(1, just(6)) }

// torn is the book whose heap 1 is left with 9.
func torn() change { return last(1, just(9)) }

// none is a book that has no truth at all.
func none() change { return last(1, just(99)) }

// lone is a book of a heap and loads; all carters tell at most 1 too many.
func lone(first, last api.Span, l ...api.StoneMove) api.StoneBook {
	return api.StoneBook{Heaps: []api.StoneHeap{heap(first, last)}, Moves: l, Lies: [4]int{1, 1, 1, 1}}
}

// full has as much of everything as is allowed, at its upper limits.
func full(changes ...change) api.StoneBook {
	b := api.StoneBook{Heaps: slices.Repeat([]api.StoneHeap{heap(to(56, 60), to(0, 99))}, api.StoneHeaps), Lies: [4]int{2, 2, 2, 2}}
	for n := range api.StoneMoves {
		b.Moves = append(b.Moves, move(n%2, 2+n%2, 3, 6))
	}
	for _, c := range changes {
		c(&b)
	}
	return b
}

// answer is what a function returns; what does not apply to it is zero.
type answer struct {
	span api.Span
	is   bool
	list []int
	e    api.Errno
}

func isNothingBut(a answer, e api.Errno) bool {
	return len(a.list) == 0 && a.span == (api.Span{}) && !a.is && a.e == e
}

// question is the numbers with which functions are asked.
type question struct{ move, heap, behind, carter, rate, yards int }

// ask calls all functions but Check.
func ask(b api.StoneBook, q question) map[string]answer {
	all := map[string]answer{}
	var a answer
	put := func(name string) { all[name], a = a, answer{} }
	a.is, a.e = stone.Right(b)
	put("Right")
	a.span, a.e = stone.Yards(b, q.move)
	put("Yards")
	a.span, a.e = stone.Heap(b, q.heap, q.behind)
	put("Heap")
	a.span, a.e = stone.Laid(b)
	put("Laid")
	a.span, a.e = stone.Owed(b, q.carter, q.rate)
	put("Owed")
	a.is, a.e = stone.Fits(b, q.move, q.yards)
	put("Fits")
	a.list, a.e = stone.Liars(b)
	put("Liars")
	a.list, a.e = stone.Wrong(b)
	put("Wrong")
	return all
}

func checkSpan(t *testing.T, what string, got api.Span, e api.Errno, want api.Span) {
	t.Helper()
	if got != want || e != api.OK {
		t.Errorf("%s: %v, %d; want %v", what, got, e, want)
	}
}

func checkList(t *testing.T, what string, got []int, e api.Errno, want ...int) {
	t.Helper()
	if !slices.Equal(got, want) || e != api.OK {
		t.Errorf("%s: %v, %d; want %v", what, got, e, want)
	}
}

func checkIs(t *testing.T, what string, got bool, e api.Errno, want bool) {
	t.Helper()
	if got != want || e != api.OK {
		t.Errorf("%s: %v, %d; want %v", what, got, e, want)
	}
}

// TestExamples has the examples of the chapter.
func TestExamples(t *testing.T) {
	for n, want := range []api.Span{to(3, 4), to(5, 6), to(4, 5), to(5, 6)} {
		s, e := stone.Yards(book(), n)
		checkSpan(t, "Yards", s, e, want)
	}
	s, e := stone.Yards(book(filled()), 3)
	checkSpan(t, "full: Yards", s, e, just(5))
	s, e = stone.Heap(book(), 0, 0)
	checkSpan(t, "Heap 0 behind 0", s, e, to(10, 11))
	s, e = stone.Heap(book(), 0, 1)
	checkSpan(t, "Heap 0 behind 1", s, e, to(13, 14))
	s, e = stone.Heap(book(), 1, 4)
	checkSpan(t, "Heap 1 behind 4", s, e, to(4, 6))
	s, e = stone.Laid(book())
	checkSpan(t, "Laid", s, e, to(9, 11))
	s, e = stone.Owed(book(), 1, 2)
	checkSpan(t, "Owed by 1 at 2", s, e, to(20, 22))
	s, e = stone.Owed(book(), 0, 1)
	checkSpan(t, "Owed by 0 at 1", s, e, to(8, 10))
	for _, x := range []struct {
		move, yards int
		want        bool
	}{{1, 4, false}, {1, 5, true}, {2, 3, false}} {
		is, e := stone.Fits(book(), x.move, x.yards)
		checkIs(t, "Fits", is, e, x.want)
	}
	l, e := stone.Liars(book())
	checkList(t, "Liars", l, e)
	l, e = stone.Liars(book(filled()))
	checkList(t, "full: Liars", l, e, 0)
	is, e := stone.Right(book(torn()))
	checkIs(t, "torn: Right", is, e, false)
	l, e = stone.Wrong(book(torn()))
	checkList(t, "torn: Wrong", l, e, 3)
	if s, e := stone.Laid(book(torn())); s != (api.Span{}) || e != api.ErrStoneFalse {
		t.Errorf("torn: Laid: %v, %d", s, e)
	}
}

// TestExampleOfOverview has the third example of DOC.md.
func TestExampleOfOverview(t *testing.T) {
	s, e := stone.Laid(lone(just(5), to(0, 99), move(0, out, 0, 6)))
	checkSpan(t, "Laid", s, e, just(5))
}

// TestCheckLimits has books at the ends of each limit (P3.1).
func TestCheckLimits(t *testing.T) {
	small := heap(just(0), just(0))
	for i, b := range []api.StoneBook{
		book(), book(torn()), book(none()), full(), book(moves()), {Heaps: []api.StoneHeap{small}},
		book(heaps(small, small, small, small)), book(first(0, to(0, 4))), book(first(0, to(56, 60))), book(first(1, just(60))), book(first(1, just(0))),
		book(last(0, to(0, 99))), book(last(1, just(0))), book(last(1, just(99))), book(last(0, to(0, 5))),
		book(moves(slices.Repeat([]api.StoneMove{move(0, 1, 3, 6)}, 5)...)), book(moves(move(out, 1, 0, 0), move(1, out, 3, 0), move(1, 0, 0, 6))),
		book(heaps(small, small, small, small), moves(move(3, 0, 0, 0), move(0, 3, 0, 0), move(3, out, 0, 0), move(out, 3, 0, 0))),
		book(lies(0, 0, 0, 0)), book(lies(2, 2, 2, 2)),
	} {
		if e := stone.Check(b); e != api.OK {
			t.Errorf("the valid book %d: %d", i, e)
		}
	}
}

// wrongBooks are books beyond the ends of each limit.
func wrongBooks() []api.StoneBook {
	changes := []change{
		func(b *api.StoneBook) { *b = api.StoneBook{} },
		heaps(), func(b *api.StoneBook) { b.Heaps, b.Moves = nil, nil },
		heaps(slices.Repeat([]api.StoneHeap{heap(just(0), to(0, 99))}, 5)...),
		moves(slices.Repeat([]api.StoneMove{move(0, 1, 0, 0)}, 6)...),
		moves(move(0, 0, 0, 0)), moves(move(1, 1, 0, 0)), moves(move(out, out, 0, 0)), moves(move(0, 1, 0, 0), move(1, 1, 0, 0)),
	}
	ends := []api.Span{just(-1), to(-1, 0), to(1, 0), to(60, 0), to(math.MinInt, math.MaxInt), to(math.MaxInt, math.MinInt), to(0, math.MaxInt), to(math.MinInt, 0), just(math.MinInt), just(math.MaxInt)}
	for n := range 2 {
		for _, s := range ends {
			changes = append(changes, first(n, s), last(n, s))
		}
		for _, s := range []api.Span{just(61), to(60, 61), to(57, 61), to(0, 5), to(55, 60), to(0, 60)} {
			changes = append(changes, first(n, s))
		}
		changes = append(changes, last(n, just(100)), last(n, to(99, 100)), last(n, to(0, 100)))
	}
	for _, n := range []int{-2, 2, 3, math.MinInt, math.MaxInt} {
		changes = append(changes, moves(move(n, 0, 0, 0)), moves(move(0, n, 0, 0)), moves(move(out, n, 0, 0)), moves(move(n, out, 0, 0)), moves(move(n, n, 0, 0)))
		changes = append(changes, moves(move(0, 1, 0, 0), move(n, 0, 0, 0)), moves(move(0, 1, 0, 0), move(0, n, 0, 0)))
	}
	for _, n := range []int{-1, 4, math.MinInt, math.MaxInt} {
		changes = append(changes, moves(move(0, 1, n, 0)), moves(move(0, 1, 0, 0), move(0, 1, n, 0)))
	}
	for _, n := range []int{-1, 7, math.MinInt, math.MaxInt} {
		changes = append(changes, told(0, n), told(3, n))
	}
	for _, n := range []int{-1, 3, math.MinInt, math.MaxInt} {
		for carter := range api.StoneCarters {
			changes = append(changes, func(b *api.StoneBook) { b.Lies[carter] = n })
		}
	}
	var l []api.StoneBook
	for _, c := range changes {
		l = append(l, book(c))
	}
	return l
}

// TestErrStone has wrong books: all functions return ErrStone first, and nothing else (P3.1, P1).
func TestErrStone(t *testing.T) {
	for i, b := range wrongBooks() {
		if e := stone.Check(b); e != api.ErrStone {
			t.Errorf("the wrong book %d: Check: %d", i, e)
		}
		for _, n := range []int{0, -1, math.MinInt, math.MaxInt} {
			for name, a := range ask(b, question{n, n, n, n, n, n}) {
				if !isNothingBut(a, api.ErrStone) {
					t.Errorf("the wrong book %d: %s of %d: %+v", i, name, n, a)
				}
			}
		}
	}
}

// TestErrStoneAsk has wrong questions: they come before a book that cannot be true (P3.2, P3.4, P3.5).
func TestErrStoneAsk(t *testing.T) {
	for _, b := range []api.StoneBook{book(), book(torn()), book(none()), full()} {
		hold := func(q question, names ...string) {
			all := ask(b, q)
			for _, name := range names {
				if !isNothingBut(all[name], api.ErrStoneAsk) {
					t.Errorf("%s of %+v: %+v", name, q, all[name])
				}
			}
		}
		for _, n := range []int{-1, math.MinInt, math.MaxInt} {
			hold(question{move: n}, "Yards", "Fits")
			hold(question{heap: n}, "Heap")
			hold(question{behind: n}, "Heap")
			hold(question{carter: n}, "Owed")
			hold(question{rate: n}, "Owed")
			hold(question{yards: n}, "Fits")
		}
		hold(question{move: len(b.Moves)}, "Yards", "Fits")
		hold(question{heap: len(b.Heaps)}, "Heap")
		hold(question{behind: len(b.Moves) + 1}, "Heap")
		hold(question{carter: 4}, "Owed")
		hold(question{rate: 100}, "Owed")
		hold(question{yards: 7}, "Fits")
	}
	for name, a := range ask(book(moves(), last(0, to(0, 99))), question{}) {
		if want := name == "Yards" || name == "Fits"; want != (a.e == api.ErrStoneAsk) {
			t.Errorf("%s without loads: %+v", name, a)
		}
	}
}

// TestErrStoneFalse has books that cannot be true, with truths and without any (P3.1 to P3.7).
func TestErrStoneFalse(t *testing.T) {
	for i, x := range []struct {
		b    api.StoneBook
		none bool
	}{
		{book(torn()), false}, {book(none()), true}, {book(last(1, just(11))), false}, {book(last(1, just(12))), true},
		{lone(just(4), to(0, 99), move(0, out, 0, 6)), false}, {lone(just(0), just(13), move(out, 0, 0, 6), move(out, 0, 0, 6)), true},
		{lone(just(0), just(12), move(out, 0, 0, 6), move(out, 0, 0, 5)), false}, {lone(to(0, 4), just(5)), true}, {lone(to(1, 5), just(0)), true},
		{lone(just(0), to(0, 99), move(0, out, 0, 2), move(out, 0, 0, 2)), false},
	} {
		all := ask(x.b, question{})
		for _, name := range []string{"Yards", "Heap", "Laid", "Owed", "Fits", "Liars"} {
			if len(x.b.Moves) == 0 && (name == "Yards" || name == "Fits") {
				continue
			}
			if !isNothingBut(all[name], api.ErrStoneFalse) {
				t.Errorf("the torn book %d: %s: %+v", i, name, all[name])
			}
		}
		if a := all["Right"]; a.is || a.e != api.OK {
			t.Errorf("the torn book %d: Right: %+v", i, a)
		}
		if a := all["Wrong"]; x.none && !isNothingBut(a, api.ErrStoneFalse) || !x.none && (len(a.list) == 0 || a.e != api.OK) {
			t.Errorf("the torn book %d: Wrong: %+v", i, a)
		}
	}
}

// TestYards has loads that their tallies bound, their heaps, and other loads (P3.2).
func TestYards(t *testing.T) {
	for i, x := range []struct {
		b    api.StoneBook
		want []api.Span
	}{
		{book(filled()), []api.Span{to(3, 4), just(6), to(4, 5), just(5)}},
		{book(last(1, just(4))), []api.Span{just(3), just(5), just(5), just(6)}},
		{book(lies(0, 0, 0, 0)), []api.Span{just(4), just(6), just(5), just(6)}},
		{lone(just(0), to(0, 99), move(out, 0, 0, 0)), []api.Span{just(0)}},
		{lone(just(0), to(0, 99), move(out, 0, 0, 1)), []api.Span{to(0, 1)}},
		{lone(just(0), to(0, 99), move(out, 0, 0, 6)), []api.Span{to(5, 6)}},
		{lone(just(6), to(0, 99), move(0, out, 0, 6)), []api.Span{to(5, 6)}},
		{lone(just(5), to(0, 99), move(0, out, 0, 6)), []api.Span{just(5)}},
		{lone(to(0, 4), to(0, 1), move(0, out, 0, 4)), []api.Span{to(3, 4)}},
		{lone(to(0, 4), just(1), move(0, out, 0, 4)), []api.Span{just(3)}},
		{lone(just(3), just(8), move(out, 0, 0, 3), move(out, 0, 0, 3)), []api.Span{to(2, 3), to(2, 3)}},
		{lone(just(3), just(9), move(out, 0, 0, 3), move(out, 0, 0, 3)), []api.Span{just(3), just(3)}},
		// What comes later is not there yet.
		{lone(just(0), to(0, 99), move(0, out, 0, 1), move(out, 0, 0, 4)), []api.Span{just(0), to(3, 4)}},
		{lone(just(0), to(0, 99), move(out, 0, 0, 4), move(0, out, 0, 5)), []api.Span{just(4), just(4)}},
		// A heap between two others hands on what it got.
		{book(heaps(heap(just(2), just(0)), heap(just(0), just(0)), heap(just(0), to(0, 99))), moves(move(0, 1, 1, 4), move(1, 2, 1, 4))), []api.Span{just(2), just(2)}},
		{full(), slices.Repeat([]api.Span{to(4, 6)}, 5)},
		{full(last(2, just(78))), []api.Span{just(6), to(4, 6), just(6), to(4, 6), just(6)}},
	} {
		for n, want := range x.want {
			s, e := stone.Yards(x.b, n)
			if s != want || e != api.OK {
				t.Errorf("Yards %d of %d: %v, %d; want %v", n, i, s, e, want)
			}
		}
	}
}

// TestHeap has heaps at all places between loads (P3.2).
func TestHeap(t *testing.T) {
	for i, x := range []struct {
		b    api.StoneBook
		heap int
		want []api.Span
	}{
		{book(), 0, []api.Span{to(10, 11), to(13, 14), to(7, 8), to(2, 3), to(2, 3)}},
		{book(), 1, []api.Span{just(5), just(5), to(10, 11), to(10, 11), to(4, 6)}},
		{book(filled()), 1, []api.Span{just(5), just(5), just(11), just(11), just(6)}},
		{lone(to(3, 5), to(0, 99)), 0, []api.Span{to(3, 5)}},
		{lone(to(3, 5), to(4, 99)), 0, []api.Span{to(4, 5)}},
		{lone(to(3, 5), to(0, 4)), 0, []api.Span{to(3, 4)}},
		{lone(to(3, 5), to(0, 99), move(0, out, 0, 6)), 0, []api.Span{just(5), just(0)}},
		{lone(to(3, 7), to(0, 99), move(0, out, 0, 6)), 0, []api.Span{to(5, 7), to(0, 2)}},
		{lone(to(3, 7), to(2, 99), move(0, out, 0, 6)), 0, []api.Span{just(7), just(2)}},
		{lone(to(3, 7), just(0), move(0, out, 0, 6)), 0, []api.Span{to(5, 6), just(0)}},
		{lone(to(0, 4), to(0, 99), move(0, out, 0, 3), move(out, 0, 0, 2), move(0, out, 0, 5)), 0, []api.Span{just(4), just(2), just(4), just(0)}},
		{full(), 0, []api.Span{to(56, 60), to(50, 56), to(50, 56), to(44, 52), to(44, 52), to(38, 48)}},
		{full(), 3, []api.Span{to(56, 60), to(56, 60), to(60, 66), to(60, 66), to(64, 72), to(64, 72)}},
	} {
		for behind, want := range x.want {
			s, e := stone.Heap(x.b, x.heap, behind)
			if s != want || e != api.OK {
				t.Errorf("Heap %d of %d behind %d: %v, %d; want %v", x.heap, i, behind, s, e, want)
			}
		}
	}
}

// TestLaidAndOwed has loads that go to the road, and those of carters (P3.3, P3.4).
func TestLaidAndOwed(t *testing.T) {
	toRoad, fromPit := move(0, out, 0, 2), move(out, 0, 1, 3)
	for i, x := range []struct {
		b            api.StoneBook
		laid         api.Span
		carter, rate int
		owed         api.Span
	}{
		{book(), to(9, 11), 2, 99, just(0)},
		{book(), to(9, 11), 1, 0, just(0)},
		{book(filled()), to(9, 10), 0, 3, to(24, 27)},
		{lone(to(3, 5), to(0, 99)), just(0), 0, 99, just(0)},
		{lone(just(9), to(0, 99), fromPit, fromPit), just(0), 1, 1, to(4, 6)},
		{lone(just(9), to(0, 99), toRoad, fromPit), to(1, 2), 1, 10, to(20, 30)},
		{lone(just(9), to(0, 99), toRoad, fromPit, toRoad), to(2, 4), 0, 10, to(20, 40)},
		// Both loads of the carter surely had 3 together, though neither is known.
		{lone(just(9), just(6), toRoad, toRoad), just(3), 0, 7, just(21)},
		{full(), just(0), 3, 99, to(20*99, 30*99)},
		{full(), just(0), 0, 99, just(0)},
	} {
		s, e := stone.Laid(x.b)
		if s != x.laid || e != api.OK {
			t.Errorf("Laid %d: %v, %d; want %v", i, s, e, x.laid)
		}
		s, e = stone.Owed(x.b, x.carter, x.rate)
		if s != x.owed || e != api.OK {
			t.Errorf("Owed %d: %v, %d; want %v", i, s, e, x.owed)
		}
	}
}

// TestFits has all numbers that a load may have had (P3.5).
func TestFits(t *testing.T) {
	// What came to the heap 0 left it again, in two loads.
	divided := api.StoneBook{
		Heaps: []api.StoneHeap{heap(just(0), just(0)), heap(just(0), to(0, 99))},
		Moves: []api.StoneMove{move(out, 0, 0, 6), move(0, 1, 1, 2), move(0, out, 1, 3)},
		Lies:  [4]int{2, 1, 2, 2},
	}
	for i, x := range []struct {
		b    api.StoneBook
		move int
		want []int
	}{
		{book(), 0, []int{3, 4}}, {book(), 1, []int{5, 6}}, {book(), 2, []int{4, 5}}, {book(), 3, []int{5, 6}},
		{book(filled()), 3, []int{5}}, {lone(just(9), to(0, 99), move(0, out, 0, 0)), 0, []int{0}},
		{divided, 0, []int{4, 5}}, {divided, 1, []int{1, 2}}, {divided, 2, []int{2, 3}},
		{full(), 4, []int{4, 5, 6}}, {full(last(0, just(42))), 4, []int{4, 5, 6}}, {full(last(0, just(38))), 4, []int{6}},
	} {
		for yards := range api.StoneLoad + 1 {
			is, e := stone.Fits(x.b, x.move, yards)
			if is != slices.Contains(x.want, yards) || e != api.OK {
				t.Errorf("Fits %d of %d, %d: %v, %d", x.move, i, yards, is, e)
			}
		}
	}
}

// TestLiars has carters who told what was so, perhaps too many, and surely too many (P3.6).
func TestLiars(t *testing.T) {
	for i, x := range []struct {
		b    api.StoneBook
		want []int
	}{
		{book(), nil},
		{book(last(1, just(4))), []int{0, 1}},
		{book(lies(0, 2, 0, 0)), nil},
		{book(moves(), last(0, to(0, 99))), nil},
		{lone(just(5), to(0, 99), move(0, out, 3, 6)), []int{3}},
		{lone(just(6), to(0, 99), move(0, out, 3, 6)), nil},
		// One of both surely told too many, but neither surely did.
		{lone(just(0), just(3), move(out, 0, 0, 2), move(out, 0, 1, 2)), nil},
		{lone(just(0), just(3), move(out, 0, 2, 2), move(out, 0, 2, 2)), []int{2}},
		{lone(just(0), just(2), move(out, 0, 3, 2), move(out, 0, 1, 2)), []int{1, 3}},
		{lone(just(0), just(3), move(out, 0, 1, 1), move(out, 0, 1, 1), move(out, 0, 1, 2)), []int{1}},
		{full(last(2, just(68))), []int{3}},
	} {
		l, e := stone.Liars(x.b)
		if !slices.Equal(l, x.want) || e != api.OK {
			t.Errorf("Liars %d: %v, %d; want %v", i, l, e, x.want)
		}
	}
}

// TestWrong has tallies that must be false: the fewest, and the first of several lists (P3.7, P3.1).
func TestWrong(t *testing.T) {
	in := func(told int) api.StoneMove { return move(out, 0, 0, told) }
	for i, x := range []struct {
		b    api.StoneBook
		want []int
	}{
		{book(), nil},
		{book(last(1, just(11))), []int{3}},
		{lone(just(0), to(0, 99)), nil},
		{lone(just(2), to(0, 99), move(0, out, 0, 6)), []int{0}},
		{lone(just(0), just(4), in(2), in(2)), nil},
		{lone(just(0), just(5), in(2), in(2)), []int{0}},
		{lone(just(0), just(1), in(2), in(2)), []int{0}},
		{lone(just(0), just(0), in(2), in(2)), []int{0, 1}},
		{lone(just(0), just(1), in(2), in(2), in(2)), []int{0, 1}},
		{lone(just(0), just(0), in(2), in(1), in(2), in(1)), []int{0, 2}},
		// A single later tally is better than two earlier ones.
		{lone(just(0), just(3), in(1), in(1), in(6)), []int{2}},
		{lone(just(0), just(13), in(6), in(5), in(2), move(0, out, 0, 6)), []int{3}},
		{lone(just(0), just(18), in(6), in(5), in(2), move(0, out, 0, 6)), []int{1, 2, 3}},
		// By how much a carter tells too many does not count for another one.
		{book(heaps(heap(just(0), just(4))), moves(move(out, 0, 1, 6))), nil},
		{book(heaps(heap(just(0), just(4))), moves(move(out, 0, 0, 6))), []int{0}},
		// Nobody tells too few.
		{book(heaps(heap(just(0), just(4))), moves(move(out, 0, 1, 3))), []int{0}},
		{full(moves(slices.Repeat([]api.StoneMove{move(0, out, 0, 0)}, 5)...), last(0, to(26, 30))), []int{0, 1, 2, 3, 4}},
	} {
		l, e := stone.Wrong(x.b)
		if !slices.Equal(l, x.want) || e != api.OK {
			t.Errorf("Wrong %d: %v, %d; want %v", i, l, e, x.want)
		}
		is, e := stone.Right(x.b)
		if is != (len(x.want) == 0) || e != api.OK {
			t.Errorf("Right %d: %v, %d", i, is, e)
		}
	}
}

func cloneBook(b api.StoneBook) api.StoneBook {
	b.Heaps, b.Moves = slices.Clone(b.Heaps), slices.Clone(b.Moves)
	return b
}

// TestArguments asks with lists behind whose ends the caller keeps something (P3.8).
func TestArguments(t *testing.T) {
	all := book(torn())
	for n := range len(all.Moves) + 1 {
		for count := 1; count <= len(all.Heaps); count++ {
			kept := cloneBook(all)
			b := kept
			b.Heaps, b.Moves = kept.Heaps[:count], kept.Moves[:n]
			stone.Check(b)
			ask(b, question{})
			if !reflect.DeepEqual(kept, all) {
				t.Errorf("with %d heaps and %d loads: %+v", count, n, kept)
			}
		}
	}
}

// TestResults writes into results, and behind their ends, and into arguments afterwards: neither changes another result (P3.8, P2).
func TestResults(t *testing.T) {
	b := book(last(1, just(4)))
	one, _ := stone.Liars(b)
	two, _ := stone.Liars(b)
	clear(one[:cap(one)])
	_ = append(one[:1], 7)
	checkList(t, "Liars", two, api.OK, 0, 1)
	b = lone(just(0), just(0), move(out, 0, 0, 2), move(out, 0, 0, 2))
	one, _ = stone.Wrong(b)
	two, _ = stone.Wrong(b)
	one[0], one[1] = 9, 9
	b.Moves[0].Told, b.Moves[1].Told = 1, 1
	checkList(t, "Wrong", two, api.OK, 0, 1)
	two, e := stone.Wrong(b)
	checkList(t, "Wrong of another book", two, e)
	before := ask(book(), question{1, 1, 1, 1, 1, 5})
	ask(book(torn()), question{1, 1, 1, 1, 1, 5})
	if again := ask(book(), question{1, 1, 1, 1, 1, 5}); !reflect.DeepEqual(before, again) {
		t.Errorf("once more: %+v; first %+v", again, before)
	}
}

// TestNilAndEmpty has nil lists and empty ones (R3).
func TestNilAndEmpty(t *testing.T) {
	one, two := book(last(0, to(0, 99))), book(last(0, to(0, 99)))
	one.Moves, two.Moves = nil, []api.StoneMove{}
	if a, b := ask(one, question{}), ask(two, question{}); !reflect.DeepEqual(a, b) {
		t.Errorf("nil %+v; empty %+v", a, b)
	}
	two.Heaps = []api.StoneHeap{}
	if e := stone.Check(two); e != api.ErrStone {
		t.Errorf("no heaps: %d", e)
	}
}
