package roll_test

import (
	"math/rand"
	"slices"
	"testing"

	"macadam/api"
	"macadam/roll"
)

// telling is a truth as the chapter defines it, all of it written out: the wagons and the sky of each day, and how many layers were bound at its end, how much stone was laid and lost, and how much lies on the road at last.
type telling struct {
	wagons, skies, bound []int
	laid, lost, lies     int
}

// follow rolls the road day by day, wagon by wagon.
func follow(b api.RollBook, wagons, skies []int) telling {
	t := telling{wagons: wagons, skies: skies}
	needs := 0 // by so many wagons the loose layer must still be rolled; 0 if there is none
	bound := 0
	for n, sky := range skies {
		if bound < len(b.Layers) && needs == 0 {
			needs = b.Layers[bound].Needs
			t.laid += b.Layers[bound].Yards
			t.lies += b.Layers[bound].Yards
		}
		switch {
		case bound == len(b.Layers) || sky == api.RollDry:
		case sky == api.RollWet:
			needs = 0
			t.lost += b.Layers[bound].Yards
			t.lies -= b.Layers[bound].Yards
		default:
			for range min(wagons[n], needs) {
				needs--
			}
			if needs == 0 {
				bound++
			}
		}
		t.bound = append(t.bound, bound)
	}
	return t
}

// all returns all lists that have one of the numbers of each list.
func all(choices [][]int) [][]int {
	lists := [][]int{nil}
	for _, c := range choices {
		var longer [][]int
		for _, l := range lists {
			for _, n := range c {
				longer = append(longer, append(slices.Clone(l), n))
			}
		}
		lists = longer
	}
	return lists
}

// tellings returns all truths of a book, whether its looks are right or not.
func tellings(b api.RollBook) []telling {
	var wagons, skies [][]int
	for _, d := range b.Days {
		wagons = append(wagons, []int{d.Wagons.Low})
		if d.Wagons.High > d.Wagons.Low {
			wagons[len(wagons)-1] = []int{d.Wagons.Low, d.Wagons.High}
		}
		var some []int
		for sky, set := range []int{dry, damp, wet} {
			if d.Sky&set != 0 {
				some = append(some, sky)
			}
		}
		skies = append(skies, some)
	}
	ways := all(wagons)
	var l []telling
	for _, sky := range all(skies) {
		for _, way := range ways {
			l = append(l, follow(b, way, sky))
		}
	}
	return l
}

func (t telling) wrong(b api.RollBook) []int {
	var l []int
	for n, look := range b.Looks {
		if t.bound[look.Day] != look.Bound {
			l = append(l, n)
		}
	}
	return l
}

func rightOnes(b api.RollBook) []telling {
	return slices.DeleteFunc(tellings(b), func(t telling) bool { return len(t.wrong(b)) > 0 })
}

// watered returns how many layers are bound at last if the road is watered on a day; on none it is on no day.
func (t telling) watered(b api.RollBook, day int) int {
	skies := slices.Clone(t.skies)
	if day != none && skies[day] == api.RollDry {
		skies[day] = api.RollDamp
	}
	return follow(b, t.wagons, skies).bound[len(skies)-1]
}

// spanOf returns the least and the greatest number that f has of truths.
func spanOf(l []telling, f func(telling) int) api.Span {
	s := just(f(l[0]))
	for _, t := range l {
		s = to(min(s.Low, f(t)), max(s.High, f(t)))
	}
	return s
}

func within(s, outer api.Span) bool { return outer.Low <= s.Low && s.High <= outer.High }

// subsets returns all strictly increasing lists of numbers below count.
func subsets(count int) [][]int {
	lists := [][]int{nil}
	for n := range count {
		for _, l := range lists {
			lists = append(lists, append(slices.Clone(l), n))
		}
	}
	return lists
}

// isBefore reports whether a list is shorter, or as long and before the other.
func isBefore(l, other []int) bool {
	return len(l) < len(other) || len(l) == len(other) && slices.Compare(l, other) < 0
}

// randomBook returns a book without looks; its layers need about as many wagons as pass on a day or two.
func randomBook(r *rand.Rand) api.RollBook {
	var b api.RollBook
	for range 1 + r.Intn(4) {
		b.Layers = append(b.Layers, layer(1+r.Intn(9), 1+r.Intn(50)))
	}
	count := 1 + r.Intn(4)
	if r.Intn(40) == 0 {
		count = 5
	}
	for range count {
		low := r.Intn(8)
		b.Days = append(b.Days, day(to(low, low+r.Intn(2)), []int{damp, damp, dry, wet, dry | damp, dry | damp, damp | wet, dry | wet, anySky}[r.Intn(9)]))
	}
	return b
}

// randomLook returns a look that is right in a truth.
func randomLook(r *rand.Rand, t telling) api.RollLook {
	n := r.Intn(len(t.bound))
	return look(n, t.bound[n])
}

// lookedBook returns a book with up to three looks, all of them right in one of its truths, and that truth; change changes it before it has any looks.
func lookedBook(r *rand.Rand, changes ...change) (api.RollBook, telling) {
	b := randomBook(r)
	for _, c := range changes {
		c(&b)
	}
	l := tellings(b)
	truth := l[r.Intn(len(l))]
	for range r.Intn(4) {
		b.Looks = append(b.Looks, randomLook(r, truth))
	}
	return b, truth
}

// spoil sees other numbers, now and then, and one look more.
func spoil(r *rand.Rand, b *api.RollBook, truth telling) {
	b.Looks = append(b.Looks, randomLook(r, truth))
	for n := range b.Looks {
		if r.Intn(2) == 0 {
			b.Looks[n].Bound = r.Intn(len(b.Layers) + 1)
		}
	}
}

func eachRandomBook(count int, f func(r *rand.Rand, b api.RollBook, truth telling)) {
	r := rand.New(rand.NewSource(7))
	for range count {
		b, truth := lookedBook(r)
		f(r, b, truth)
	}
}

// TestAgainstTruths holds all answers against truths that are written out one by one (P7.1 to P7.7).
func TestAgainstTruths(t *testing.T) {
	eachRandomBook(2000, func(r *rand.Rand, b api.RollBook, truth telling) {
		if r.Intn(2) == 0 {
			spoil(r, &b, truth)
		}
		holdWrong(t, b)
		right := rightOnes(b)
		if is, e := roll.Right(b); is != (len(right) > 0) || e != api.OK {
			t.Fatalf("%+v: Right: %v, %d", b, is, e)
		}
		if len(right) == 0 {
			if s, e := roll.Bound(b, 0); s != (api.Span{}) || e != api.ErrRollFalse {
				t.Fatalf("%+v: Bound: %v, %d", b, s, e)
			}
			return
		}
		holdDays(t, b, right)
		holdStone(t, b, right)
		holdDone(t, b, right)
		holdWater(t, b, right)
	})
}

// holdWrong takes, of the looks that are wrong in each truth, the shortest list, the first one of several (P7.7).
func holdWrong(t *testing.T, b api.RollBook) {
	var best []int
	for n := range b.Looks {
		best = append(best, n)
	}
	for _, x := range tellings(b) {
		if wrong := x.wrong(b); isBefore(wrong, best) {
			best = wrong
		}
	}
	if got, e := roll.Wrong(b); !slices.Equal(got, best) || e != api.OK {
		t.Fatalf("%+v: Wrong: %v, %d; want %v", b, got, e, best)
	}
}

// holdDays also holds all looks of the days (P7.2, P7.6).
func holdDays(t *testing.T, b api.RollBook, right []telling) {
	for n := range b.Days {
		want := spanOf(right, func(t telling) int { return t.bound[n] })
		if s, e := roll.Bound(b, n); s != want || e != api.OK {
			t.Fatalf("%+v: Bound %d: %v, %d; want %v", b, n, s, e, want)
		}
		want = spanOf(right, func(t telling) int { return t.wagons[n] })
		if s, e := roll.Wagons(b, n); s != want || e != api.OK {
			t.Fatalf("%+v: Wagons %d: %v, %d; want %v", b, n, s, e, want)
		}
		skies := 0
		for _, x := range right {
			skies |= []int{dry, damp, wet}[x.skies[n]]
		}
		if set, e := roll.Sky(b, n); set != skies || e != api.OK {
			t.Fatalf("%+v: Sky %d: %d, %d; want %d", b, n, set, e, skies)
		}
		for bound := range len(b.Layers) + 1 {
			fits := slices.ContainsFunc(right, func(t telling) bool { return t.bound[n] == bound })
			if is, e := roll.Fits(b, look(n, bound)); is != fits || e != api.OK {
				t.Fatalf("%+v: Fits %d, %d: %v, %d", b, n, bound, is, e)
			}
		}
	}
}

func holdStone(t *testing.T, b api.RollBook, right []telling) {
	want := spanOf(right, func(t telling) int { return t.lost })
	if s, e := roll.Lost(b); s != want || e != api.OK {
		t.Fatalf("%+v: Lost: %v, %d; want %v", b, s, e, want)
	}
	want = spanOf(right, func(t telling) int { return t.laid })
	if s, e := roll.Laid(b); s != want || e != api.OK {
		t.Fatalf("%+v: Laid: %v, %d; want %v", b, s, e, want)
	}
}

func holdDone(t *testing.T, b api.RollBook, right []telling) {
	done, perhaps := none, none
	for n := len(b.Days) - 1; n >= 0; n-- {
		bound := spanOf(right, func(t telling) int { return t.bound[n] })
		if bound.Low == len(b.Layers) {
			done = n
		}
		if bound.High == len(b.Layers) {
			perhaps = n
		}
	}
	if n, e := roll.Done(b); !isDay(n, e, done) {
		t.Fatalf("%+v: Done: %d, %d; want %d", b, n, e, done)
	}
	if n, e := roll.Perhaps(b); !isDay(n, e, perhaps) {
		t.Fatalf("%+v: Perhaps: %d, %d; want %d", b, n, e, perhaps)
	}
}

func holdWater(t *testing.T, b api.RollBook, right []telling) {
	least := func(day int) int { return spanOf(right, func(t telling) int { return t.watered(b, day) }).Low }
	want := none
	for n := range b.Days {
		if least(n) > least(want) {
			want = n
		}
	}
	if n, e := roll.Water(b); !isDay(n, e, want) {
		t.Fatalf("%+v: Water: %d, %d; want %d", b, n, e, want)
	}
}

// TestSurelyBound has looks that are right: what is so lies in all that is told (P7.9).
func TestSurelyBound(t *testing.T) {
	eachRandomBook(2000, func(r *rand.Rand, b api.RollBook, truth telling) {
		is, e := roll.Right(b)
		wrong, f := roll.Wrong(b)
		if !is || len(wrong) > 0 || e != api.OK || f != api.OK {
			t.Fatalf("%+v: Right %v, %d, Wrong %v, %d; truly %+v", b, is, e, wrong, f, truth)
		}
		for n := range b.Days {
			bound, e := roll.Bound(b, n)
			wagons, f := roll.Wagons(b, n)
			skies, g := roll.Sky(b, n)
			if !within(just(truth.bound[n]), bound) || !within(just(truth.wagons[n]), wagons) || skies>>truth.skies[n]&1 != 1 || e != api.OK || f != api.OK || g != api.OK {
				t.Fatalf("%+v: Bound %d %v, Wagons %v, Sky %d; %d, %d, %d; truly %+v", b, n, bound, wagons, skies, e, f, g, truth)
			}
		}
		lost, e := roll.Lost(b)
		laid, f := roll.Laid(b)
		if !within(just(truth.lost), lost) || !within(just(truth.laid), laid) || e != api.OK || f != api.OK {
			t.Fatalf("%+v: Lost %v, %d, Laid %v, %d; truly %+v", b, lost, e, laid, f, truth)
		}
		if n, e := roll.Done(b); e == api.OK && truth.bound[n] != len(b.Layers) {
			t.Fatalf("%+v: Done %d; truly %+v", b, n, truth)
		}
		done := slices.Index(truth.bound, len(b.Layers))
		if n, e := roll.Perhaps(b); done >= 0 && (e != api.OK || n > done) {
			t.Fatalf("%+v: Perhaps %d, %d; truly %+v", b, n, e, truth)
		}
	})
}

// TestFromDayToDay compares each day with the one before it, and looks at both ends and beyond them (P7.10).
func TestFromDayToDay(t *testing.T) {
	eachRandomBook(1000, func(r *rand.Rand, b api.RollBook, _ telling) {
		before := just(0)
		for n := range b.Days {
			s, e := roll.Bound(b, n)
			if s.Low < before.Low || s.High < before.High || s.Low > before.Low+1 || s.High > before.High+1 || e != api.OK {
				t.Fatalf("%+v: Bound %d: %v, %d; before %v", b, n, s, e, before)
			}
			for bound := range len(b.Layers) + 1 {
				is, e := roll.Fits(b, look(n, bound))
				isEnd, isBetween := bound == s.Low || bound == s.High, within(just(bound), s)
				if e != api.OK || isEnd && !is || is && !isBetween {
					t.Fatalf("%+v: Bound %d: %v; Fits %d: %v, %d", b, n, s, bound, is, e)
				}
			}
			before = s
		}
	})
}

// TestOneLookMore adds a look that can be right (P7.11).
func TestOneLookMore(t *testing.T) {
	eachRandomBook(2000, func(r *rand.Rand, b api.RollBook, truth telling) {
		more := cloneBook(b)
		more.Looks = append(more.Looks, randomLook(r, truth))
		hold := func(name string, f func(api.RollBook) (api.Span, api.Errno)) {
			one, _ := f(b)
			two, e := f(more)
			if !within(two, one) || e != api.OK {
				t.Fatalf("%+v: %s: %v, %d; before %v", more, name, two, e, one)
			}
		}
		hold("Lost", roll.Lost)
		hold("Laid", roll.Laid)
		for n := range b.Days {
			hold("Bound", func(b api.RollBook) (api.Span, api.Errno) { return roll.Bound(b, n) })
			hold("Wagons", func(b api.RollBook) (api.Span, api.Errno) { return roll.Wagons(b, n) })
			one, _ := roll.Sky(b, n)
			two, e := roll.Sky(more, n)
			if two == 0 || two&^one != 0 || e != api.OK {
				t.Fatalf("%+v: Sky %d: %d, %d; before %d", more, n, two, e, one)
			}
		}
		one, e := roll.Done(b)
		two, f := roll.Done(more)
		if e == api.OK && (f != api.OK || two > one) {
			t.Fatalf("%+v: Done: %d, %d; before %d", more, two, f, one)
		}
		one, e = roll.Perhaps(b)
		two, f = roll.Perhaps(more)
		if f == api.OK && (e != api.OK || two < one) {
			t.Fatalf("%+v: Perhaps: %d, %d; before %d, %d", more, two, f, one, e)
		}
	})
}

// TestWhatLies has days of which all is known: what is laid lies on the road at last, or was lost (P7.12).
func TestWhatLies(t *testing.T) {
	r := rand.New(rand.NewSource(12))
	for range 1000 {
		b, truth := lookedBook(r, func(b *api.RollBook) {
			for n, d := range b.Days {
				b.Days[n] = day(just(d.Wagons.Low), []int{dry, damp, damp, wet}[r.Intn(4)])
			}
		})
		lost, e := roll.Lost(b)
		laid, f := roll.Laid(b)
		if lost.Low != lost.High || laid != just(truth.lies+lost.Low) || e != api.OK || f != api.OK {
			t.Fatalf("%+v: Lost %v, %d, Laid %v, %d; truly %+v", b, lost, e, laid, f, truth)
		}
	}
}

// TestOneSky has no wet days, and only dry ones (P7.12).
func TestOneSky(t *testing.T) {
	r := rand.New(rand.NewSource(13))
	for range 1000 {
		b, _ := lookedBook(r, func(b *api.RollBook) {
			for n := range b.Days {
				b.Days[n].Sky = 1 + r.Intn(dry|damp)
			}
		})
		if s, e := roll.Lost(b); s != just(0) || e != api.OK {
			t.Fatalf("%+v: Lost: %v, %d", b, s, e)
		}
		b.Looks = nil
		for n := range b.Days {
			b.Days[n].Sky = dry
		}
		for n := range b.Days {
			if s, e := roll.Bound(b, n); s != just(0) || e != api.OK {
				t.Fatalf("%+v: Bound %d: %v, %d", b, n, s, e)
			}
		}
	}
}

// TestWateredRoad waters the road on each day, without looks: it is best on the day that is told (P7.13).
func TestWateredRoad(t *testing.T) {
	eachRandomBook(1500, func(r *rand.Rand, b api.RollBook, _ telling) {
		b.Looks = nil
		last := len(b.Days) - 1
		bare, e := roll.Bound(b, last)
		if e != api.OK {
			t.Fatalf("%+v: Bound: %d", b, e)
		}
		most, want := bare.Low, none
		for n, d := range b.Days {
			wetted := cloneBook(b)
			if d.Sky&dry != 0 {
				wetted.Days[n].Sky = d.Sky&^dry | damp
			}
			s, e := roll.Bound(wetted, last)
			if s.Low < bare.Low || e != api.OK {
				t.Fatalf("%+v: Bound: %v, %d; before %v", wetted, s, e, bare)
			}
			if s.Low > most {
				most, want = s.Low, n
			}
		}
		if n, e := roll.Water(b); !isDay(n, e, want) {
			t.Fatalf("%+v: Water: %d, %d; want %d", b, n, e, want)
		}
	})
}

// TestOneWagonMore lets a wagon more pass, without looks (P7.13).
func TestOneWagonMore(t *testing.T) {
	eachRandomBook(1500, func(r *rand.Rand, b api.RollBook, _ telling) {
		b.Looks = nil
		more := cloneBook(b)
		d := &more.Days[r.Intn(len(b.Days))].Wagons
		*d = to(d.Low+1, d.High+1)
		for n := range b.Days {
			one, e := roll.Bound(b, n)
			two, f := roll.Bound(more, n)
			if two.Low < one.Low || two.High < one.High || e != api.OK || f != api.OK {
				t.Fatalf("%+v: Bound %d: %v, %d; before %v, %d", more, n, two, f, one, e)
			}
		}
	})
}

// TestLooksThatMustBeWrong leaves out looks: without those that are told the book can be true, without fewer, or as many that come before, it cannot (P7.14).
func TestLooksThatMustBeWrong(t *testing.T) {
	eachRandomBook(1000, func(r *rand.Rand, b api.RollBook, truth telling) {
		spoil(r, &b, truth)
		wrong, e := roll.Wrong(b)
		if e != api.OK {
			t.Fatalf("%+v: Wrong: %d", b, e)
		}
		for _, l := range subsets(len(b.Looks)) {
			less := cloneBook(b)
			less.Looks = nil
			for n, look := range b.Looks {
				if !slices.Contains(l, n) {
					less.Looks = append(less.Looks, look)
				}
			}
			is, f := roll.Right(less)
			if f != api.OK || slices.Equal(l, wrong) && !is || isBefore(l, wrong) && is {
				t.Fatalf("%+v: Wrong %v; Right without %v: %v, %d", b, wrong, l, is, f)
			}
		}
	})
}

func BenchmarkWater(bench *testing.B) {
	b := full(looks())
	for bench.Loop() {
		roll.Water(b)
	}
}

func BenchmarkWrong(bench *testing.B) {
	b := full(looks(look(0, 1), look(1, 0), look(2, 2), look(3, 1)))
	for bench.Loop() {
		roll.Wrong(b)
	}
}
