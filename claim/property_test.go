package claim_test

import (
	"math/rand"
	"slices"
	"testing"

	"macadam/api"
	"macadam/claim"
)

// telling is a truth as the chapter defines it, all of it written out: the weather, what horses, road and stop took on each stage, and when the coach came to the end of each.
type telling struct {
	weather            int
	drive, rough, stop []int
	comes              []int
}

// all returns all lists that have one of the numbers of each span.
func all(spans []api.Span) [][]int {
	lists := [][]int{nil}
	for _, s := range spans {
		var longer [][]int
		for _, l := range lists {
			for n := s.Low; n <= s.High; n++ {
				longer = append(longer, append(slices.Clone(l), n))
			}
		}
		lists = longer
	}
	return lists
}

// drive lets the coach go from stage to stage; took has the Drive, the Rough and the Stop of each, one after the other.
func drive(b api.ClaimBook, weather int, took []int) telling {
	t := telling{weather: weather}
	minute := 0
	for n := range b.Stages {
		t.drive, t.rough, t.stop = append(t.drive, took[3*n]), append(t.rough, took[3*n+1]), append(t.stop, took[3*n+2])
		minute += took[3*n] + took[3*n+1] + b.Costs[weather]
		t.comes = append(t.comes, minute)
		minute += took[3*n+2]
	}
	return t
}

// tellings returns all truths of a book, whether its clocks are right or not.
func tellings(b api.ClaimBook) []telling {
	var spans []api.Span
	for _, s := range b.Stages {
		spans = append(spans, s.Drive, s.Rough, s.Stop)
	}
	var l []telling
	for weather, set := range []int{dry, rain, snow} {
		if b.Weathers&set == 0 {
			continue
		}
		for _, took := range all(spans) {
			l = append(l, drive(b, weather, took))
		}
	}
	return l
}

func (t telling) isRight(c api.ClaimClock) bool {
	apart := t.comes[c.Stage] - c.Read
	return max(apart, -apart) <= c.Error
}

func (t telling) wrong(b api.ClaimBook) []int {
	var l []int
	for n, c := range b.Clocks {
		if !t.isRight(c) {
			l = append(l, n)
		}
	}
	return l
}

func rightOnes(b api.ClaimBook) []telling {
	return slices.DeleteFunc(tellings(b), func(t telling) bool { return len(t.wrong(b)) > 0 })
}

func (t telling) late(b api.ClaimBook, n int) int { return max(0, t.comes[n]-b.Stages[n].Due) }

func (t telling) allRough() int {
	all := 0
	for _, n := range t.rough {
		all += n
	}
	return all
}

func (t telling) isToBlame(b api.ClaimBook) bool {
	last := len(b.Stages) - 1
	comes, due := t.comes[last], b.Stages[last].Due
	return comes > due && comes-t.allRough() <= due
}

// owes pays for one minute after the other.
func (t telling) owes(b api.ClaimBook) int {
	pence, rough := 0, t.allRough()
	for late := t.late(b, len(b.Stages)-1); late > 0 && rough > 0; late, rough = late-1, rough-1 {
		pence += b.Rate
	}
	return pence
}

// spanOf returns the least and the greatest number that f has of truths.
func spanOf(l []telling, f func(telling) int) api.Span {
	s := just(f(l[0]))
	for _, t := range l {
		s = to(min(s.Low, f(t)), max(s.High, f(t)))
	}
	return s
}

func within(s, outer api.Span) bool { return outer.Low <= s.Low && s.High <= outer.High }

// subsets returns all strictly increasing lists of numbers below count.
func subsets(count int) [][]int {
	lists := [][]int{nil}
	for n := range count {
		for _, l := range lists {
			lists = append(lists, append(slices.Clone(l), n))
		}
	}
	return lists
}

// isBefore reports whether a list is shorter, or as long and before the other.
func isBefore(l, other []int) bool {
	return len(l) < len(other) || len(l) == len(other) && slices.Compare(l, other) < 0
}

// randomBook returns a book without clocks, whose coach is about in time. Rarely all its spans may be as wide as they can be.
func randomBook(r *rand.Rand) api.ClaimBook {
	wide := 1
	if r.Intn(30) == 0 {
		wide = 2
	}
	span := func(low, high, wide int) api.Span {
		n := low + r.Intn(high-low+1)
		return to(n, n+r.Intn(wide+1))
	}
	b := api.ClaimBook{Weathers: 1 + r.Intn(7), Costs: [3]int{r.Intn(5), r.Intn(5), r.Intn(8)}, Rate: r.Intn(100)}
	due := 0
	for range 1 + r.Intn(3) {
		s := stage(0, span(1, 30, wide), span(0, 4, wide), span(0, 6, 1))
		due = max(due+1, due+s.Drive.Low+s.Rough.Low+s.Stop.Low+r.Intn(8)-1)
		s.Due = due
		b.Stages = append(b.Stages, s)
	}
	return b
}

// randomClock returns a clock that is right in a truth.
func randomClock(r *rand.Rand, t telling) api.ClaimClock {
	n, wrong := r.Intn(len(t.comes)), r.Intn(6)
	read := t.comes[n] + r.Intn(2*wrong+1) - wrong
	return clock(n, max(0, read), wrong)
}

// clockedBook returns a book with up to three clocks, all of them right in one of its truths, and that truth; change changes it before it has any clocks.
func clockedBook(r *rand.Rand, changes ...change) (api.ClaimBook, telling) {
	b := randomBook(r)
	for _, c := range changes {
		c(&b)
	}
	l := tellings(b)
	truth := l[r.Intn(len(l))]
	for range r.Intn(4) {
		b.Clocks = append(b.Clocks, randomClock(r, truth))
	}
	return b, truth
}

// spoil reads other numbers, now and then, and one clock more.
func spoil(r *rand.Rand, b *api.ClaimBook, truth telling) {
	b.Clocks = append(b.Clocks, randomClock(r, truth))
	for n := range b.Clocks {
		if r.Intn(2) == 0 {
			b.Clocks[n].Read = max(0, b.Clocks[n].Read+r.Intn(13)-6)
		}
	}
}

func eachRandomBook(count int, f func(r *rand.Rand, b api.ClaimBook, truth telling)) {
	r := rand.New(rand.NewSource(6))
	for range count {
		b, truth := clockedBook(r)
		f(r, b, truth)
	}
}

// TestAgainstTruths holds all answers against truths that are written out one by one (P6.1 to P6.8).
func TestAgainstTruths(t *testing.T) {
	eachRandomBook(1500, func(r *rand.Rand, b api.ClaimBook, truth telling) {
		if r.Intn(2) == 0 {
			spoil(r, &b, truth)
		}
		holdWrong(t, b)
		right := rightOnes(b)
		if is, e := claim.Right(b); is != (len(right) > 0) || e != api.OK {
			t.Fatalf("%+v: Right: %v, %d", b, is, e)
		}
		if len(right) == 0 {
			if s, e := claim.Comes(b, 0); s != (api.Span{}) || e != api.ErrClaimFalse {
				t.Fatalf("%+v: Comes: %v, %d", b, s, e)
			}
			return
		}
		holdStages(t, b, right)
		holdWeather(t, b, right)
		holdBlame(t, b, right)
		holdFits(t, b, right)
	})
}

// holdWrong takes, of the clocks that are wrong in each truth, the shortest list, the first one of several (P6.7).
func holdWrong(t *testing.T, b api.ClaimBook) {
	var best []int
	for n := range b.Clocks {
		best = append(best, n)
	}
	for _, x := range tellings(b) {
		if wrong := x.wrong(b); isBefore(wrong, best) {
			best = wrong
		}
	}
	if got, e := claim.Wrong(b); !slices.Equal(got, best) || e != api.OK {
		t.Fatalf("%+v: Wrong: %v, %d; want %v", b, got, e, best)
	}
}

func holdStages(t *testing.T, b api.ClaimBook, right []telling) {
	first := none
	for n := range b.Stages {
		want := spanOf(right, func(t telling) int { return t.comes[n] })
		if s, e := claim.Comes(b, n); s != want || e != api.OK {
			t.Fatalf("%+v: Comes %d: %v, %d; want %v", b, n, s, e, want)
		}
		want = spanOf(right, func(t telling) int { return t.late(b, n) })
		if s, e := claim.Late(b, n); s != want || e != api.OK {
			t.Fatalf("%+v: Late %d: %v, %d; want %v", b, n, s, e, want)
		}
		if first == none && want.Low > 0 {
			first = n
		}
		want = spanOf(right, func(t telling) int { return t.rough[n] })
		if s, e := claim.Rough(b, n); s != want || e != api.OK {
			t.Fatalf("%+v: Rough %d: %v, %d; want %v", b, n, s, e, want)
		}
	}
	if n, e := claim.First(b); !isStage(n, e, first) {
		t.Fatalf("%+v: First: %d, %d; want %d", b, n, e, first)
	}
}

func holdWeather(t *testing.T, b api.ClaimBook, right []telling) {
	want := 0
	for _, x := range right {
		want |= []int{dry, rain, snow}[x.weather]
	}
	if n, e := claim.Weather(b); n != want || e != api.OK {
		t.Fatalf("%+v: Weather: %d, %d; want %d", b, n, e, want)
	}
}

func holdBlame(t *testing.T, b api.ClaimBook, right []telling) {
	owes := spanOf(right, func(t telling) int { return t.owes(b) })
	if s, e := claim.Owes(b); s != owes || e != api.OK {
		t.Fatalf("%+v: Owes: %v, %d; want %v", b, s, e, owes)
	}
	blamed := 0
	for _, x := range right {
		if x.isToBlame(b) {
			blamed++
		}
	}
	blame, pays := 1, 0
	switch blamed {
	case 0:
		blame = 0
	case len(right):
		blame, pays = 2, owes.Low
	}
	if n, e := claim.Blame(b); n != blame || e != api.OK {
		t.Fatalf("%+v: Blame: %d, %d; want %d", b, n, e, blame)
	}
	if n, e := claim.Pays(b); n != pays || e != api.OK {
		t.Fatalf("%+v: Pays: %d, %d; want %d", b, n, e, pays)
	}
}

func holdFits(t *testing.T, b api.ClaimBook, right []telling) {
	for n := range b.Stages {
		comes := spanOf(right, func(t telling) int { return t.comes[n] })
		for read := max(0, comes.Low-7); read <= comes.High+7; read++ {
			c := clock(n, read, (read+n)%6)
			want := slices.ContainsFunc(right, func(t telling) bool { return t.isRight(c) })
			if is, e := claim.Fits(b, c); is != want || e != api.OK {
				t.Fatalf("%+v: Fits %+v: %v, %d", b, c, is, e)
			}
		}
	}
}

// TestRoadsCharge has clocks that are read rightly: what is so lies in all that is told (P6.10).
func TestRoadsCharge(t *testing.T) {
	eachRandomBook(1500, func(r *rand.Rand, b api.ClaimBook, truth telling) {
		is, _ := claim.Right(b)
		wrong, e := claim.Wrong(b)
		if !is || len(wrong) > 0 || e != api.OK {
			t.Fatalf("%+v: Right %v, Wrong %v, %d; truly %+v", b, is, wrong, e, truth)
		}
		for n := range b.Stages {
			comes, _ := claim.Comes(b, n)
			late, _ := claim.Late(b, n)
			rough, e := claim.Rough(b, n)
			if !within(just(truth.comes[n]), comes) || !within(just(truth.late(b, n)), late) || !within(just(truth.rough[n]), rough) || e != api.OK {
				t.Fatalf("%+v: Comes %d %v, Late %v, Rough %v, %d; truly %+v", b, n, comes, late, rough, e, truth)
			}
		}
		if set, e := claim.Weather(b); set>>truth.weather&1 != 1 || e != api.OK {
			t.Fatalf("%+v: Weather %d, %d; truly %+v", b, set, e, truth)
		}
		blame, _ := claim.Blame(b)
		owes, _ := claim.Owes(b)
		pays, e := claim.Pays(b)
		isToBlame, owed := truth.isToBlame(b), truth.owes(b)
		if blame == 2 && !isToBlame || blame == 0 && isToBlame || !within(just(owed), owes) || pays > owed || e != api.OK {
			t.Fatalf("%+v: Blame %d, Owes %v, Pays %d, %d; truly %+v, owes %d", b, blame, owes, pays, e, truth, owed)
		}
		if n, e := claim.First(b); e == api.OK && truth.late(b, n) == 0 {
			t.Fatalf("%+v: First %d; truly %+v", b, n, truth)
		}
	})
}

// TestEndsFit reads the minutes at both ends and beyond them, without an error (P6.11).
func TestEndsFit(t *testing.T) {
	eachRandomBook(600, func(r *rand.Rand, b api.ClaimBook, _ telling) {
		for n := range b.Stages {
			s, e := claim.Comes(b, n)
			if e != api.OK {
				t.Fatalf("%+v: Comes %d: %d", b, n, e)
			}
			for read := max(0, s.Low-3); read <= s.High+3; read++ {
				is, e := claim.Fits(b, clock(n, read, 0))
				isEnd, isBetween := read == s.Low || read == s.High, within(just(read), s)
				if e != api.OK || isEnd && !is || is && !isBetween {
					t.Fatalf("%+v: Comes %d: %v; Fits %d: %v, %d", b, n, s, read, is, e)
				}
			}
		}
	})
}

// TestWeathersThatCanHaveBeen lets there be each weather alone (P6.11).
func TestWeathersThatCanHaveBeen(t *testing.T) {
	eachRandomBook(1500, func(r *rand.Rand, b api.ClaimBook, _ telling) {
		told, e := claim.Weather(b)
		if told == 0 || told&^b.Weathers != 0 || e != api.OK {
			t.Fatalf("%+v: Weather: %d, %d", b, told, e)
		}
		for _, set := range []int{dry, rain, snow} {
			if b.Weathers&set == 0 {
				continue
			}
			alone := cloneBook(b)
			alone.Weathers = set
			if is, e := claim.Right(alone); is != (told&set != 0) || e != api.OK {
				t.Fatalf("%+v: Weather %d; Right with %d alone: %v, %d", b, told, set, is, e)
			}
		}
	})
}

// TestOneClockMore adds a clock that can be right (P6.12).
func TestOneClockMore(t *testing.T) {
	eachRandomBook(1500, func(r *rand.Rand, b api.ClaimBook, truth telling) {
		more := cloneBook(b)
		more.Clocks = append(more.Clocks, randomClock(r, truth))
		for n := range b.Stages {
			for name, f := range map[string]func(api.ClaimBook, int) (api.Span, api.Errno){"Comes": claim.Comes, "Late": claim.Late, "Rough": claim.Rough} {
				one, _ := f(b, n)
				two, e := f(more, n)
				if !within(two, one) || e != api.OK {
					t.Fatalf("%+v: %s %d: %v, %d; before %v", more, name, n, two, e, one)
				}
			}
		}
		one, _ := claim.Owes(b)
		two, e := claim.Owes(more)
		if !within(two, one) || e != api.OK {
			t.Fatalf("%+v: Owes: %v, %d; before %v", more, two, e, one)
		}
		holdSure(t, b, more)
	})
}

// holdSure looks for what was sure, and is not any more.
func holdSure(t *testing.T, b, more api.ClaimBook) {
	one, _ := claim.Weather(b)
	two, e := claim.Weather(more)
	if two&^one != 0 || e != api.OK {
		t.Fatalf("%+v: Weather: %d, %d; before %d", more, two, e, one)
	}
	one, _ = claim.Blame(b)
	two, e = claim.Blame(more)
	if one != 1 && two != one || e != api.OK {
		t.Fatalf("%+v: Blame: %d, %d; before %d", more, two, e, one)
	}
	one, _ = claim.Pays(b)
	two, e = claim.Pays(more)
	if two < one || e != api.OK {
		t.Fatalf("%+v: Pays: %d, %d; before %d", more, two, e, one)
	}
	one, e = claim.First(b)
	two, f := claim.First(more)
	if e == api.OK && (f != api.OK || two > one) {
		t.Fatalf("%+v: First: %d, %d; before %d", more, two, f, one)
	}
}

// TestSmoothRoad has no Rough on any stage (P6.13).
func TestSmoothRoad(t *testing.T) {
	r := rand.New(rand.NewSource(13))
	for range 500 {
		b, _ := clockedBook(r, func(b *api.ClaimBook) {
			for n := range b.Stages {
				b.Stages[n].Rough = just(0)
			}
		})
		owes, e := claim.Owes(b)
		blame, f := claim.Blame(b)
		pays, g := claim.Pays(b)
		if owes != just(0) || blame != 0 || pays != 0 || e != api.OK || f != api.OK || g != api.OK {
			t.Fatalf("%+v: Owes %v, %d, Blame %d, %d, Pays %d, %d", b, owes, e, blame, f, pays, g)
		}
	}
}

// TestDueLater has stages that are due a minute later (P6.13).
func TestDueLater(t *testing.T) {
	eachRandomBook(1500, func(r *rand.Rand, b api.ClaimBook, _ telling) {
		later := cloneBook(b)
		for n := range later.Stages {
			later.Stages[n].Due++
		}
		for n := range later.Stages {
			one, _ := claim.Late(b, n)
			two, e := claim.Late(later, n)
			if want := to(max(0, one.Low-1), max(0, one.High-1)); two != want || e != api.OK {
				t.Fatalf("%+v: Late %d: %v, %d; before %v", later, n, two, e, one)
			}
		}
		one, _ := claim.Owes(b)
		two, e := claim.Owes(later)
		if two.Low > one.Low || two.High > one.High || e != api.OK {
			t.Fatalf("%+v: Owes: %v, %d; before %v", later, two, e, one)
		}
	})
}

// TestClocksThatMustBeWrong leaves out clocks: without those that are told the book can be true, without fewer, or as many that come before, it cannot (P6.14).
func TestClocksThatMustBeWrong(t *testing.T) {
	eachRandomBook(600, func(r *rand.Rand, b api.ClaimBook, truth telling) {
		spoil(r, &b, truth)
		wrong, e := claim.Wrong(b)
		if e != api.OK {
			t.Fatalf("%+v: Wrong: %d", b, e)
		}
		for _, l := range subsets(len(b.Clocks)) {
			less := cloneBook(b)
			less.Clocks = nil
			for n, c := range b.Clocks {
				if !slices.Contains(l, n) {
					less.Clocks = append(less.Clocks, c)
				}
			}
			is, f := claim.Right(less)
			if f != api.OK || slices.Equal(l, wrong) && !is || isBefore(l, wrong) && is {
				t.Fatalf("%+v: Wrong %v; Right without %v: %v, %d", b, wrong, l, is, f)
			}
		}
	})
}

func BenchmarkOwes(bench *testing.B) {
	b := full(clocks())
	for bench.Loop() {
		claim.Owes(b)
	}
}

func BenchmarkWrong(bench *testing.B) {
	b := full()
	for bench.Loop() {
		claim.Wrong(b)
	}
}
