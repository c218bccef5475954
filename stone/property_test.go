package stone_test

import (
	"math/rand"
	"slices"
	"testing"

	"macadam/api"
	"macadam/stone"
)

// telling is a truth as the chapter defines it, all of it written out: what was in each heap at first, and how much each load had.
type telling struct{ first, had []int }

// all returns all lists that have one of the numbers of each span.
func all(spans []api.Span) [][]int {
	lists := [][]int{nil}
	for _, s := range spans {
		var longer [][]int
		for _, l := range lists {
			for n := s.Low; n <= s.High; n++ {
				longer = append(longer, append(slices.Clone(l), n))
			}
		}
		lists = longer
	}
	return lists
}

// tellings returns all truths of a book, whether its tallies are right or not.
func tellings(b api.StoneBook) []telling {
	var firsts []api.Span
	for _, h := range b.Heaps {
		firsts = append(firsts, h.First)
	}
	hads := all(slices.Repeat([]api.Span{to(0, 6)}, len(b.Moves)))
	var l []telling
	for _, first := range all(firsts) {
		for _, had := range hads {
			if t := (telling{first, had}); t.isTruth(b) {
				l = append(l, t)
			}
		}
	}
	return l
}

// isTruth reports whether no heap ever has too little, and each is left with a number in its Last.
func (t telling) isTruth(b api.StoneBook) bool {
	for n, m := range b.Moves {
		if m.From != out && t.held(b, m.From, n) < t.had[n] {
			return false
		}
	}
	for n, h := range b.Heaps {
		if !within(just(t.held(b, n, len(b.Moves))), h.Last) {
			return false
		}
	}
	return true
}

// held returns what was in a heap behind so many loads.
func (t telling) held(b api.StoneBook, heap, behind int) int {
	yards := t.first[heap]
	for n, m := range b.Moves[:behind] {
		if m.From == heap {
			yards -= t.had[n]
		}
		if m.To == heap {
			yards += t.had[n]
		}
	}
	return yards
}

// together returns how much all those loads had for which is returns true.
func (t telling) together(b api.StoneBook, is func(m api.StoneMove) bool) int {
	yards := 0
	for n, m := range b.Moves {
		if is(m) {
			yards += t.had[n]
		}
	}
	return yards
}

func (t telling) laid(b api.StoneBook) int {
	return t.together(b, func(m api.StoneMove) bool { return m.To == out })
}

func (t telling) carted(b api.StoneBook, carter int) int {
	return t.together(b, func(m api.StoneMove) bool { return m.Carter == carter })
}

// wrong returns the tallies that are false.
func (t telling) wrong(b api.StoneBook) []int {
	var l []int
	for n, m := range b.Moves {
		if m.Told < t.had[n] || m.Told > t.had[n]+b.Lies[m.Carter] {
			l = append(l, n)
		}
	}
	return l
}

// liars returns all carters of whose tallies some is greater than its load.
func (t telling) liars(b api.StoneBook) []int {
	var l []int
	for carter := range 4 {
		for n, m := range b.Moves {
			if m.Carter == carter && m.Told > t.had[n] && !slices.Contains(l, carter) {
				l = append(l, carter)
			}
		}
	}
	return l
}

// spanOf returns the least and the greatest number that f has of truths.
func spanOf(l []telling, f func(telling) int) api.Span {
	s := just(f(l[0]))
	for _, t := range l {
		s = to(min(s.Low, f(t)), max(s.High, f(t)))
	}
	return s
}

func within(s, outer api.Span) bool { return outer.Low <= s.Low && s.High <= outer.High }

// around returns a span with n in it, from least to most.
func around(r *rand.Rand, n, least, most, wide int) api.Span {
	return to(max(least, n-r.Intn(wide+1)), min(most, n+r.Intn(wide+1)))
}

// randomBook returns a book all of whose tallies are right in one of its truths, and that truth.
func randomBook(r *rand.Rand) (api.StoneBook, telling) {
	var b api.StoneBook
	var t telling
	count, wide := r.Intn(4), 1
	if r.Intn(30) == 0 {
		count, wide = 4+r.Intn(2), 0
	}
	for range 1 + r.Intn(3) {
		n := r.Intn(12)
		t.first = append(t.first, n)
		b.Heaps = append(b.Heaps, heap(around(r, n, 0, 60, wide), to(0, 99)))
	}
	for carter := range b.Lies {
		b.Lies[carter] = r.Intn(3)
	}
	for range count {
		m := randomMove(r, len(b.Heaps))
		had := r.Intn(7)
		if m.From != out {
			had = min(had, t.held(b, m.From, len(b.Moves)))
		}
		m.Told = min(6, had+r.Intn(b.Lies[m.Carter]+1))
		b.Moves, t.had = append(b.Moves, m), append(t.had, had)
	}
	for n := range b.Heaps {
		b.Heaps[n].Last = around(r, t.held(b, n, count), 0, 99, r.Intn(4))
	}
	return b, t
}

func randomMove(r *rand.Rand, heaps int) api.StoneMove {
	ends := r.Perm(heaps + 1)
	return move(ends[0]-1, ends[1]-1, r.Intn(4), 0)
}

// spoil tells other numbers of loads, and of what is left, now and then.
func spoil(r *rand.Rand, b *api.StoneBook) {
	for n := range b.Moves {
		if r.Intn(4) == 0 {
			b.Moves[n].Told = r.Intn(7)
		}
	}
	for n := range b.Heaps {
		if r.Intn(6) == 0 {
			b.Heaps[n].Last = around(r, r.Intn(24), 0, 99, 2)
		}
	}
}

func eachRandomBook(count int, f func(r *rand.Rand, b api.StoneBook, truth telling)) {
	r := rand.New(rand.NewSource(1))
	for range count {
		b, truth := randomBook(r)
		f(r, b, truth)
	}
}

// TestAgainstAllTruths holds all answers against those of all truths, one by one (P3.1 to P3.7).
func TestAgainstAllTruths(t *testing.T) {
	eachRandomBook(1500, func(r *rand.Rand, b api.StoneBook, _ telling) {
		if r.Intn(2) == 0 {
			spoil(r, &b)
		}
		l := tellings(b)
		var right []telling
		for _, x := range l {
			if len(x.wrong(b)) == 0 {
				right = append(right, x)
			}
		}
		if is, e := stone.Right(b); is != (len(right) > 0) || e != api.OK {
			t.Fatalf("%+v: Right: %v, %d", b, is, e)
		}
		holdWrong(t, b, l)
		if len(right) == 0 {
			if s, e := stone.Laid(b); s != (api.Span{}) || e != api.ErrStoneFalse {
				t.Fatalf("%+v: Laid: %v, %d", b, s, e)
			}
			return
		}
		holdLoads(t, b, right)
		holdHeaps(t, b, right)
		holdCarters(t, b, right, r.Intn(100))
	})
}

// holdWrong takes, of the tallies that are false in each truth, the shortest list, the first one of several (P3.7).
func holdWrong(t *testing.T, b api.StoneBook, l []telling) {
	var best []int
	for i, x := range l {
		wrong := x.wrong(b)
		if i == 0 || len(wrong) < len(best) || len(wrong) == len(best) && slices.Compare(wrong, best) < 0 {
			best = wrong
		}
	}
	want := api.OK
	if len(l) == 0 {
		want = api.ErrStoneFalse
	}
	if got, e := stone.Wrong(b); !slices.Equal(got, best) || e != want {
		t.Fatalf("%+v: Wrong: %v, %d; want %v, %d", b, got, e, best, want)
	}
}

func holdLoads(t *testing.T, b api.StoneBook, right []telling) {
	for n := range b.Moves {
		want := spanOf(right, func(t telling) int { return t.had[n] })
		if s, e := stone.Yards(b, n); s != want || e != api.OK {
			t.Fatalf("%+v: Yards %d: %v, %d; want %v", b, n, s, e, want)
		}
		for yards := range 7 {
			want := slices.ContainsFunc(right, func(t telling) bool { return t.had[n] == yards })
			if is, e := stone.Fits(b, n, yards); is != want || e != api.OK {
				t.Fatalf("%+v: Fits %d, %d: %v, %d", b, n, yards, is, e)
			}
		}
	}
	want := spanOf(right, func(t telling) int { return t.laid(b) })
	if s, e := stone.Laid(b); s != want || e != api.OK {
		t.Fatalf("%+v: Laid: %v, %d; want %v", b, s, e, want)
	}
}

func holdHeaps(t *testing.T, b api.StoneBook, right []telling) {
	for n := range b.Heaps {
		for behind := range len(b.Moves) + 1 {
			want := spanOf(right, func(t telling) int { return t.held(b, n, behind) })
			if s, e := stone.Heap(b, n, behind); s != want || e != api.OK {
				t.Fatalf("%+v: Heap %d behind %d: %v, %d; want %v", b, n, behind, s, e, want)
			}
		}
	}
}

func holdCarters(t *testing.T, b api.StoneBook, right []telling, rate int) {
	var liars []int
	for carter := range 4 {
		want := spanOf(right, func(t telling) int { return rate * t.carted(b, carter) })
		if s, e := stone.Owed(b, carter, rate); s != want || e != api.OK {
			t.Fatalf("%+v: Owed by %d at %d: %v, %d; want %v", b, carter, rate, s, e, want)
		}
		isHonest := func(t telling) bool { return !slices.Contains(t.liars(b), carter) }
		if !slices.ContainsFunc(right, isHonest) {
			liars = append(liars, carter)
		}
	}
	if l, e := stone.Liars(b); !slices.Equal(l, liars) || e != api.OK {
		t.Fatalf("%+v: Liars: %v, %d; want %v", b, l, e, liars)
	}
}

// TestYardByYard has carters who told rightly: what is so lies in all that is told (P3.9).
func TestYardByYard(t *testing.T) {
	eachRandomBook(2000, func(r *rand.Rand, b api.StoneBook, truth telling) {
		is, _ := stone.Right(b)
		wrong, e := stone.Wrong(b)
		laid, _ := stone.Laid(b)
		if !is || len(wrong) > 0 || e != api.OK || !within(just(truth.laid(b)), laid) {
			t.Fatalf("%+v: Right %v, Wrong %v, Laid %v; truly %+v", b, is, wrong, laid, truth)
		}
		for n, had := range truth.had {
			s, e := stone.Yards(b, n)
			if fits, _ := stone.Fits(b, n, had); !within(just(had), s) || !fits || e != api.OK {
				t.Fatalf("%+v: Yards %d: %v, %d; truly %d, which fits: %v", b, n, s, e, had, fits)
			}
		}
		for n := range b.Heaps {
			for behind := range len(b.Moves) + 1 {
				held := truth.held(b, n, behind)
				if s, e := stone.Heap(b, n, behind); !within(just(held), s) || e != api.OK {
					t.Fatalf("%+v: Heap %d behind %d: %v, %d; truly %d", b, n, behind, s, e, held)
				}
			}
		}
		liars, _ := stone.Liars(b)
		for carter := range 4 {
			rate := r.Intn(100)
			if s, e := stone.Owed(b, carter, rate); !within(just(rate*truth.carted(b, carter)), s) || e != api.OK {
				t.Fatalf("%+v: Owed by %d at %d: %v, %d; truly %+v", b, carter, rate, s, e, truth)
			}
			if slices.Contains(liars, carter) && !slices.Contains(truth.liars(b), carter) {
				t.Fatalf("%+v: Liars %v; truly %+v", b, liars, truth)
			}
		}
	})
}

// TestEndsFit asks for all numbers of all loads (P3.10).
func TestEndsFit(t *testing.T) {
	eachRandomBook(1000, func(r *rand.Rand, b api.StoneBook, _ telling) {
		for n := range b.Moves {
			s, _ := stone.Yards(b, n)
			for yards := range api.StoneLoad + 1 {
				is, e := stone.Fits(b, n, yards)
				isEnd, isBetween := yards == s.Low || yards == s.High, within(just(yards), s)
				if e != api.OK || isEnd && !is || is && !isBetween {
					t.Fatalf("%+v: Yards %d: %v; Fits %d: %v, %d", b, n, s, yards, is, e)
				}
			}
		}
	})
}

// TestWhatCameAndWent goes from place to place: what is in a heap is what was in it, and what came, less what went (P3.11).
func TestWhatCameAndWent(t *testing.T) {
	eachRandomBook(1000, func(r *rand.Rand, b api.StoneBook, truth telling) {
		exact := exactBook(b, truth)
		for n, h := range b.Heaps {
			first, e := stone.Heap(b, n, 0)
			last, f := stone.Heap(b, n, len(b.Moves))
			if !within(first, h.First) || !within(last, h.Last) || e != api.OK || f != api.OK {
				t.Fatalf("%+v: Heap %d: at first %v, %d; at last %v, %d", b, n, first, e, last, f)
			}
			for behind := range b.Moves {
				before, _ := stone.Heap(exact, n, behind)
				after, e := stone.Heap(exact, n, behind+1)
				change := truth.held(b, n, behind+1) - truth.held(b, n, behind)
				if after != to(before.Low+change, before.High+change) || e != api.OK {
					t.Fatalf("%+v: Heap %d behind %d: %v, %d; before %v", exact, n, behind+1, after, e, before)
				}
			}
		}
	})
}

// exactBook returns a book in which what the loads truly had is told, and nobody tells too many.
func exactBook(b api.StoneBook, truth telling) api.StoneBook {
	exact := cloneBook(b)
	exact.Lies = [4]int{}
	for n, had := range truth.had {
		exact.Moves[n].Told = had
	}
	return exact
}

// lessKnown returns a book of which less is known in one way.
func lessKnown(r *rand.Rand, b api.StoneBook) api.StoneBook {
	less := cloneBook(b)
	n := r.Intn(len(b.Heaps))
	first, last := b.Heaps[n].First, b.Heaps[n].Last
	switch r.Intn(3) {
	case 0:
		less.Heaps[n].First = to(max(0, first.Low-r.Intn(2)), first.High+r.Intn(2))
	case 1:
		less.Heaps[n].Last = around(r, last.Low, 0, last.High, 3)
		less.Heaps[n].Last.High = last.High + r.Intn(3)
	default:
		carter := r.Intn(4)
		less.Lies[carter] = min(2, b.Lies[carter]+1)
	}
	return less
}

// spans returns all that is told of a book by spans.
func spans(b api.StoneBook) []api.Span {
	laid, _ := stone.Laid(b)
	l := []api.Span{laid}
	for n := range b.Moves {
		s, _ := stone.Yards(b, n)
		l = append(l, s)
	}
	for n := range b.Heaps {
		for behind := range len(b.Moves) + 1 {
			s, _ := stone.Heap(b, n, behind)
			l = append(l, s)
		}
	}
	for carter := range 4 {
		s, _ := stone.Owed(b, carter, 7)
		l = append(l, s)
	}
	return l
}

// TestLessKnown has heaps of which less is known, and carters who tell more too many (P3.12).
func TestLessKnown(t *testing.T) {
	eachRandomBook(3000, func(r *rand.Rand, b api.StoneBook, _ telling) {
		if r.Intn(3) == 0 {
			spoil(r, &b)
		}
		less := lessKnown(r, b)
		one, e := stone.Right(b)
		two, f := stone.Right(less)
		if e != api.OK || f != api.OK || one && !two {
			t.Fatalf("%+v: Right %v, %d; less known %v, %d", b, one, e, two, f)
		}
		if !one {
			return
		}
		narrow, wide := spans(b), spans(less)
		for i := range narrow {
			if !within(narrow[i], wide[i]) {
				t.Fatalf("%+v: %v; less known %v", b, narrow, wide)
			}
		}
		many, _ := stone.Liars(b)
		few, _ := stone.Liars(less)
		for _, carter := range few {
			if !slices.Contains(many, carter) {
				t.Fatalf("%+v: Liars %v; less known %v", b, many, few)
			}
		}
		for n := range b.Moves {
			for yards := range 7 {
				one, _ := stone.Fits(b, n, yards)
				two, _ := stone.Fits(less, n, yards)
				if one && !two {
					t.Fatalf("%+v: Fits %d, %d; less known it does not", b, n, yards)
				}
			}
		}
	})
}

// TestNobodyTellsTooMany has loads that had what was told (P3.13).
func TestNobodyTellsTooMany(t *testing.T) {
	eachRandomBook(1000, func(r *rand.Rand, b api.StoneBook, truth telling) {
		b = exactBook(b, truth)
		for n, m := range b.Moves {
			if s, e := stone.Yards(b, n); s != just(m.Told) || e != api.OK {
				t.Fatalf("%+v: Yards %d: %v, %d", b, n, s, e)
			}
		}
		laid := 0
		owed := [4]int{}
		for _, m := range b.Moves {
			owed[m.Carter] += m.Told
			if m.To == out {
				laid += m.Told
			}
		}
		if s, e := stone.Laid(b); s != just(laid) || e != api.OK {
			t.Fatalf("%+v: Laid: %v, %d", b, s, e)
		}
		for carter, yards := range owed {
			rate := r.Intn(100)
			if s, e := stone.Owed(b, carter, rate); s != just(rate*yards) || e != api.OK {
				t.Fatalf("%+v: Owed by %d at %d: %v, %d", b, carter, rate, s, e)
			}
		}
		if l, e := stone.Liars(b); len(l) > 0 || e != api.OK {
			t.Fatalf("%+v: Liars %v, %d", b, l, e)
		}
	})
}

// rightWithout reports whether a book can be true if the tallies of a list may tell anything.
func rightWithout(b api.StoneBook, list []int) bool {
	for _, tallies := range all(slices.Repeat([]api.Span{to(0, 6)}, len(list))) {
		other := cloneBook(b)
		for i, n := range list {
			other.Moves[n].Told = tallies[i]
		}
		if is, _ := stone.Right(other); is {
			return true
		}
	}
	return false
}

// TestWithoutThose leaves out the tallies that must be false: all others can be right then; with fewer, or with an earlier list that is as long, they cannot (P3.14).
func TestWithoutThose(t *testing.T) {
	eachRandomBook(400, func(r *rand.Rand, b api.StoneBook, _ telling) {
		spoil(r, &b)
		if len(b.Moves) > 3 {
			return
		}
		wrong, e := stone.Wrong(b)
		if e != api.OK && e != api.ErrStoneFalse || (e == api.OK) != rightWithout(b, wrong) {
			t.Fatalf("%+v: without %v, %d", b, wrong, e)
		}
		for set := range 1 << len(b.Moves) {
			var list []int
			for n := range b.Moves {
				if set>>n&1 == 1 {
					list = append(list, n)
				}
			}
			isBefore := len(list) < len(wrong) || len(list) == len(wrong) && slices.Compare(list, wrong) < 0
			if (isBefore || e != api.OK) && rightWithout(b, list) {
				t.Fatalf("%+v: Wrong %v, %d; without %v all others can be right", b, wrong, e, list)
			}
		}
	})
}

func BenchmarkHeap(bench *testing.B) {
	b := full()
	for bench.Loop() {
		stone.Heap(b, 0, 0)
	}
}

func BenchmarkWrong(bench *testing.B) {
	b := full(last(0, just(0)))
	for bench.Loop() {
		stone.Wrong(b)
	}
}
