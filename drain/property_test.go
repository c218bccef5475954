package drain_test

import (
	"math/rand"
	"slices"
	"testing"

	"macadam/api"
	"macadam/drain"
)

// telling is a truth as the chapter defines it, all of it written out: which drains are open, how much it rained, and, day by day, how high the water stood in each ditch, and which of them flooded the road.
type telling struct {
	open   []bool
	rain   []int
	stands [][]int
	floods [][]bool
}

// all returns all lists that have one of the numbers of each span.
func all(spans []api.Span) [][]int {
	lists := [][]int{nil}
	for _, s := range spans {
		var longer [][]int
		for _, l := range lists {
			for n := s.Low; n <= s.High; n++ {
				longer = append(longer, append(slices.Clone(l), n))
			}
		}
		lists = longer
	}
	return lists
}

// follow lets the rain of all days fall into the ditches.
func follow(b api.DrainBook, open []bool, rain []int) telling {
	t := telling{open: open, rain: rain}
	stood := make([]int, len(b.Ditches))
	for _, inches := range rain {
		stands, floods := make([]int, len(b.Ditches)), make([]bool, len(b.Ditches))
		came := make([]int, len(b.Ditches))
		for n, d := range b.Ditches {
			water, out := stood[n]+inches+came[n], 0
			for open[n] && water > 0 && out < d.Lets {
				water, out = water-1, out+1
			}
			if d.Down >= 0 {
				came[d.Down] += out
			}
			stands[n] = water
			if water > d.Holds {
				stands[n], floods[n] = d.Holds, true
			}
		}
		t.stands, t.floods = append(t.stands, stands), append(t.floods, floods)
		stood = stands
	}
	return t
}

// tellings returns all truths of a book, whether its marks are right or not.
func tellings(b api.DrainBook) []telling {
	var ways []api.Span
	for _, d := range b.Ditches {
		ways = append(ways, map[int]api.Span{blocked: just(0), perhaps: to(0, 1), open: just(1)}[d.State])
	}
	rains := all(b.Rain)
	var l []telling
	for _, way := range all(ways) {
		var isOpen []bool
		for _, n := range way {
			isOpen = append(isOpen, n == 1)
		}
		for _, rain := range rains {
			l = append(l, follow(b, isOpen, rain))
		}
	}
	return l
}

func (t telling) isRight(m api.DrainMark) bool {
	apart := t.stands[m.Day][m.Ditch] - m.Read
	return max(apart, -apart) <= m.Error
}

func (t telling) wrong(b api.DrainBook) []int {
	var l []int
	for n, m := range b.Marks {
		if !t.isRight(m) {
			l = append(l, n)
		}
	}
	return l
}

func rightOnes(b api.DrainBook) []telling {
	return slices.DeleteFunc(tellings(b), func(t telling) bool { return len(t.wrong(b)) > 0 })
}

// floodsWith reports whether any ditch floods the road if some drains are cleared.
func (t telling) floodsWith(b api.DrainBook, drains []int) bool {
	isOpen := slices.Clone(t.open)
	for _, n := range drains {
		isOpen[n] = true
	}
	return slices.ContainsFunc(follow(b, isOpen, t.rain).floods, func(day []bool) bool { return slices.Contains(day, true) })
}

// spanOf returns the least and the greatest number that f has of truths.
func spanOf(l []telling, f func(telling) int) api.Span {
	s := just(f(l[0]))
	for _, t := range l {
		s = to(min(s.Low, f(t)), max(s.High, f(t)))
	}
	return s
}

func within(s, outer api.Span) bool { return outer.Low <= s.Low && s.High <= outer.High }

// subsets returns all strictly increasing lists of numbers below count.
func subsets(count int) [][]int {
	lists := [][]int{nil}
	for n := range count {
		for _, l := range lists {
			lists = append(lists, append(slices.Clone(l), n))
		}
	}
	return lists
}

// isBefore reports whether a list is shorter, or as long and before the other.
func isBefore(l, other []int) bool {
	return len(l) < len(other) || len(l) == len(other) && slices.Compare(l, other) < 0
}

// randomBook returns a book without marks.
func randomBook(r *rand.Rand) api.DrainBook {
	var b api.DrainBook
	count, days, wide := 1+r.Intn(3), 1+r.Intn(3), 2
	if r.Intn(30) == 0 {
		count, days, wide = 4, 4, 1
	}
	for n := range count {
		down := n + 1 + r.Intn(count-n)
		if down == count {
			down = river
		}
		b.Ditches = append(b.Ditches, ditch(r.Intn(14), r.Intn(8), r.Intn(3), down))
	}
	for range days {
		low := r.Intn(10)
		b.Rain = append(b.Rain, to(low, min(9, low+r.Intn(wide+1))))
	}
	return b
}

// randomMark returns a mark that is right in a truth.
func randomMark(r *rand.Rand, t telling) api.DrainMark {
	day, n := r.Intn(len(t.rain)), r.Intn(len(t.open))
	wrong := r.Intn(4)
	read := t.stands[day][n] + r.Intn(2*wrong+1) - wrong
	return mark(n, day, min(20, max(0, read)), wrong)
}

// markedBook returns a book all of whose marks are right in one of its truths, and that truth.
func markedBook(r *rand.Rand) (api.DrainBook, telling) {
	b := randomBook(r)
	l := tellings(b)
	truth := l[r.Intn(len(l))]
	for range r.Intn(5) {
		b.Marks = append(b.Marks, randomMark(r, truth))
	}
	return b, truth
}

// spoil reads other numbers, now and then.
func spoil(r *rand.Rand, b *api.DrainBook) {
	for n := range b.Marks {
		if r.Intn(2) == 0 {
			b.Marks[n].Read = r.Intn(14)
		}
	}
}

func eachRandomBook(count int, f func(r *rand.Rand, b api.DrainBook, truth telling)) {
	r := rand.New(rand.NewSource(1))
	for range count {
		b, truth := markedBook(r)
		f(r, b, truth)
	}
}

// TestAgainstAllTruths holds all answers against those of all truths, one by one (P5.1 to P5.8).
func TestAgainstAllTruths(t *testing.T) {
	eachRandomBook(1500, func(r *rand.Rand, b api.DrainBook, _ telling) {
		if r.Intn(2) == 0 {
			spoil(r, &b)
		}
		right := rightOnes(b)
		if is, e := drain.Right(b); is != (len(right) > 0) || e != api.OK {
			t.Fatalf("%+v: Right: %v, %d", b, is, e)
		}
		holdWrong(t, b)
		if len(right) == 0 {
			if s, e := drain.Water(b, 0, 0); s != (api.Span{}) || e != api.ErrDrainFalse {
				t.Fatalf("%+v: Water: %v, %d", b, s, e)
			}
			return
		}
		holdWater(t, b, right)
		holdDrains(t, b, right)
		holdFloods(t, b, right)
		holdClear(t, b, right)
	})
}

// holdWrong takes, of the marks that are wrong in each truth, the shortest list, the first one of several (P5.8).
func holdWrong(t *testing.T, b api.DrainBook) {
	var best []int
	for n := range b.Marks {
		best = append(best, n)
	}
	for _, x := range tellings(b) {
		if wrong := x.wrong(b); isBefore(wrong, best) {
			best = wrong
		}
	}
	if got, e := drain.Wrong(b); !slices.Equal(got, best) || e != api.OK {
		t.Fatalf("%+v: Wrong: %v, %d; want %v", b, got, e, best)
	}
}

func holdWater(t *testing.T, b api.DrainBook, right []telling) {
	for day := range b.Rain {
		want := spanOf(right, func(t telling) int { return t.rain[day] })
		if s, e := drain.Rain(b, day); s != want || e != api.OK {
			t.Fatalf("%+v: Rain %d: %v, %d; want %v", b, day, s, e, want)
		}
		for n := range b.Ditches {
			want := spanOf(right, func(t telling) int { return t.stands[day][n] })
			if s, e := drain.Water(b, n, day); s != want || e != api.OK {
				t.Fatalf("%+v: Water %d on %d: %v, %d; want %v", b, n, day, s, e, want)
			}
			for read := range 21 {
				m := mark(n, day, read, (read+n)%4)
				want := slices.ContainsFunc(right, func(t telling) bool { return t.isRight(m) })
				if is, e := drain.Fits(b, m); is != want || e != api.OK {
					t.Fatalf("%+v: Fits %+v: %v, %d", b, m, is, e)
				}
			}
		}
	}
}

func holdDrains(t *testing.T, b api.DrainBook, right []telling) {
	for n := range b.Ditches {
		opens := 0
		for _, x := range right {
			if x.open[n] {
				opens++
			}
		}
		want := perhaps
		switch opens {
		case 0:
			want = blocked
		case len(right):
			want = open
		}
		if got, e := drain.Open(b, n); got != want || e != api.OK {
			t.Fatalf("%+v: Open %d: %d, %d; want %d", b, n, got, e, want)
		}
	}
}

func holdFloods(t *testing.T, b api.DrainBook, right []telling) {
	firstDay, firstDitch := none, 0
	for n := range b.Ditches {
		may, surely := none, none
		for day := len(b.Rain) - 1; day >= 0; day-- {
			isFlooded := func(t telling) bool { return t.floods[day][n] }
			isDry := func(t telling) bool { return !isFlooded(t) }
			if slices.ContainsFunc(right, isFlooded) {
				may = day
			}
			if !slices.ContainsFunc(right, isDry) {
				surely = day
			}
		}
		if may != none && (firstDay == none || may < firstDay) {
			firstDay, firstDitch = may, n
		}
		if got, e := drain.Floods(b, n); !isDay(got, e, may) {
			t.Fatalf("%+v: Floods %d: %d, %d; want %d", b, n, got, e, may)
		}
		if got, e := drain.Surely(b, n); !isDay(got, e, surely) {
			t.Fatalf("%+v: Surely %d: %d, %d; want %d", b, n, got, e, surely)
		}
	}
	if n, day, e := drain.First(b); n != firstDitch || !isDay(day, e, firstDay) {
		t.Fatalf("%+v: First: %d, %d, %d; want %d, %d", b, n, day, e, firstDitch, firstDay)
	}
}

// enough returns the best list of drains that are enough, and whether there is one.
func enough(b api.DrainBook, right []telling) (best []int, is bool) {
	for _, l := range subsets(len(b.Ditches)) {
		if is && !isBefore(l, best) {
			continue
		}
		if !slices.ContainsFunc(right, func(t telling) bool { return t.floodsWith(b, l) }) {
			best, is = l, true
		}
	}
	return best, is
}

func holdClear(t *testing.T, b api.DrainBook, right []telling) {
	best, is := enough(b, right)
	want := api.OK
	if !is {
		want = api.ErrNone
	}
	if l, e := drain.Clear(b); !slices.Equal(l, best) || e != want {
		t.Fatalf("%+v: Clear: %v, %d; want %v, %d", b, l, e, best, want)
	}
}

// TestWhereTheWaterStands has marks that are right: what is so lies in all that is told (P5.10).
func TestWhereTheWaterStands(t *testing.T) {
	eachRandomBook(1500, func(r *rand.Rand, b api.DrainBook, truth telling) {
		is, _ := drain.Right(b)
		wrong, e := drain.Wrong(b)
		if !is || len(wrong) > 0 || e != api.OK {
			t.Fatalf("%+v: Right %v, Wrong %v, %d; truly %+v", b, is, wrong, e, truth)
		}
		for day, inches := range truth.rain {
			if s, e := drain.Rain(b, day); !within(just(inches), s) || e != api.OK {
				t.Fatalf("%+v: Rain %d: %v, %d; truly %+v", b, day, s, e, truth)
			}
			for n, stands := range truth.stands[day] {
				if s, e := drain.Water(b, n, day); !within(just(stands), s) || e != api.OK {
					t.Fatalf("%+v: Water %d on %d: %v, %d; truly %+v", b, n, day, s, e, truth)
				}
			}
		}
		for n, isOpen := range truth.open {
			state, e := drain.Open(b, n)
			if e != api.OK || isOpen && state == blocked || !isOpen && state == open {
				t.Fatalf("%+v: Open %d: %d, %d; truly %+v", b, n, state, e, truth)
			}
		}
		holdFirst(t, b, truth)
	})
}

// holdFirst looks for floods before the days that are told.
func holdFirst(t *testing.T, b api.DrainBook, truth telling) {
	_, first, e := drain.First(b)
	for n := range b.Ditches {
		may, f := drain.Floods(b, n)
		for day := range b.Rain {
			if truth.floods[day][n] && (e != api.OK || f != api.OK || day < first || day < may) {
				t.Fatalf("%+v: First %d, %d, Floods %d: %d, %d; truly %+v", b, first, e, n, may, f, truth)
			}
		}
	}
	for n := range b.Ditches {
		if day, e := drain.Surely(b, n); e == api.OK && !truth.floods[day][n] {
			t.Fatalf("%+v: Surely %d: %d; truly %+v", b, n, day, truth)
		}
	}
}

// TestEndsFit marks all heights, without an error (P5.11).
func TestEndsFit(t *testing.T) {
	eachRandomBook(500, func(r *rand.Rand, b api.DrainBook, _ telling) {
		for n, d := range b.Ditches {
			for day := range b.Rain {
				s, e := drain.Water(b, n, day)
				if e != api.OK || !within(s, to(0, d.Holds)) {
					t.Fatalf("%+v: Water %d on %d: %v, %d", b, n, day, s, e)
				}
				for read := range api.DrainHolds + 1 {
					is, e := drain.Fits(b, mark(n, day, read, 0))
					isEnd, isBetween := read == s.Low || read == s.High, within(just(read), s)
					if e != api.OK || isEnd && !is || is && !isBetween {
						t.Fatalf("%+v: Water %d on %d: %v; Fits %d: %v, %d", b, n, day, s, read, is, e)
					}
				}
			}
		}
	})
}

// dayOf returns a day that is told, or one behind all days if there is none.
func dayOf(day int, e api.Errno) int {
	if e == api.ErrNone {
		return api.DrainDays
	}
	return day
}

// TestOneMarkMore adds a mark that can be right (P5.12).
func TestOneMarkMore(t *testing.T) {
	eachRandomBook(1500, func(r *rand.Rand, b api.DrainBook, truth telling) {
		more := cloneBook(b)
		more.Marks = append(more.Marks, randomMark(r, truth))
		for day := range b.Rain {
			one, _ := drain.Rain(b, day)
			two, e := drain.Rain(more, day)
			if !within(two, one) || e != api.OK {
				t.Fatalf("%+v: Rain %d: %v, %d; before %v", more, day, two, e, one)
			}
			for n := range b.Ditches {
				one, _ := drain.Water(b, n, day)
				two, e := drain.Water(more, n, day)
				if !within(two, one) || e != api.OK {
					t.Fatalf("%+v: Water %d on %d: %v, %d; before %v", more, n, day, two, e, one)
				}
			}
		}
		for n := range b.Ditches {
			one, _ := drain.Open(b, n)
			two, e := drain.Open(more, n)
			if one != perhaps && two != one || e != api.OK {
				t.Fatalf("%+v: Open %d: %d, %d; before %d", more, n, two, e, one)
			}
			if one, two := dayOf(drain.Floods(b, n)), dayOf(drain.Floods(more, n)); two < one {
				t.Fatalf("%+v: Floods %d: %d; before %d", more, n, two, one)
			}
			if one, two := dayOf(drain.Surely(b, n)), dayOf(drain.Surely(more, n)); two > one {
				t.Fatalf("%+v: Surely %d: %d; before %d", more, n, two, one)
			}
		}
		few, e := drain.Clear(b)
		fewer, f := drain.Clear(more)
		if e == api.OK && (f != api.OK || len(fewer) > len(few)) {
			t.Fatalf("%+v: Clear %v, %d; before %v", more, fewer, f, few)
		}
	})
}

// TestDrainsThatMustBeCleared opens drains in books without marks: the state of a drain does not change what is known of others (P5.13).
func TestDrainsThatMustBeCleared(t *testing.T) {
	eachRandomBook(1500, func(r *rand.Rand, b api.DrainBook, _ telling) {
		b.Marks = nil
		drains, e := drain.Clear(b)
		for _, l := range subsets(len(b.Ditches)) {
			cleared := cloneBook(b)
			for _, n := range l {
				cleared.Ditches[n].State = open
			}
			_, _, f := drain.First(cleared)
			isDry := f == api.ErrNone
			if slices.Equal(l, drains) && e == api.OK && !isDry {
				t.Fatalf("%+v: Clear %v: it floods the road", b, drains)
			}
			if (isBefore(l, drains) || e != api.OK) && isDry {
				t.Fatalf("%+v: Clear %v, %d: %v are enough", b, drains, e, l)
			}
		}
	})
}

// TestMoreRain has days on each of which it rains as much, or more (P5.14).
func TestMoreRain(t *testing.T) {
	eachRandomBook(1500, func(r *rand.Rand, b api.DrainBook, _ telling) {
		b.Marks = nil
		more := cloneBook(b)
		for day, s := range more.Rain {
			add := min(9-s.High, r.Intn(3))
			more.Rain[day] = to(s.Low+add, s.High+add)
		}
		for n := range b.Ditches {
			for day := range b.Rain {
				one, e := drain.Water(b, n, day)
				two, f := drain.Water(more, n, day)
				if two.Low < one.Low || two.High < one.High || e != api.OK || f != api.OK {
					t.Fatalf("%+v: Water %d on %d: %v; before %v", more, n, day, two, one)
				}
			}
			if one, two := dayOf(drain.Floods(b, n)), dayOf(drain.Floods(more, n)); two > one {
				t.Fatalf("%+v: Floods %d: %d; before %d", more, n, two, one)
			}
			if one, two := dayOf(drain.Surely(b, n)), dayOf(drain.Surely(more, n)); two > one {
				t.Fatalf("%+v: Surely %d: %d; before %d", more, n, two, one)
			}
		}
	})
}

// TestNoOtherRunsToIt changes all other ditches (P5.14).
func TestNoOtherRunsToIt(t *testing.T) {
	eachRandomBook(1500, func(r *rand.Rand, b api.DrainBook, _ telling) {
		b.Marks = nil
		for n := range b.Ditches {
			if slices.ContainsFunc(b.Ditches, func(d api.DrainDitch) bool { return d.Down == n }) {
				continue
			}
			other := cloneBook(b)
			for k, d := range other.Ditches {
				if k != n {
					other.Ditches[k] = ditch(r.Intn(21), r.Intn(10), r.Intn(3), d.Down)
				}
			}
			for day := range b.Rain {
				one, e := drain.Water(b, n, day)
				two, f := drain.Water(other, n, day)
				if one != two || e != api.OK || f != api.OK {
					t.Fatalf("%+v: Water %d on %d: %v; before %v", other, n, day, two, one)
				}
			}
		}
	})
}

// TestMarksThatMustBeWrong leaves out marks: without those that are told the book can be true, without fewer, or as many that come before, it cannot (P5.15).
func TestMarksThatMustBeWrong(t *testing.T) {
	eachRandomBook(600, func(r *rand.Rand, b api.DrainBook, _ telling) {
		spoil(r, &b)
		wrong, e := drain.Wrong(b)
		if e != api.OK {
			t.Fatalf("%+v: Wrong: %d", b, e)
		}
		for _, l := range subsets(len(b.Marks)) {
			less := cloneBook(b)
			less.Marks = nil
			for n, m := range b.Marks {
				if !slices.Contains(l, n) {
					less.Marks = append(less.Marks, m)
				}
			}
			is, f := drain.Right(less)
			if f != api.OK || slices.Equal(l, wrong) && !is || isBefore(l, wrong) && is {
				t.Fatalf("%+v: Wrong %v; Right without %v: %v, %d", b, wrong, l, is, f)
			}
		}
	})
}

func BenchmarkClear(bench *testing.B) {
	b := full(marks())
	for bench.Loop() {
		drain.Clear(b)
	}
}

func BenchmarkWrong(bench *testing.B) {
	b := full()
	for bench.Loop() {
		drain.Wrong(b)
	}
}
