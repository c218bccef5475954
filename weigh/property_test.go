package weigh_test

import (
	"math/rand"
	"reflect"
	"slices"
	"testing"

	"macadam/api"
	"macadam/weigh"
)

// telling is a truth as the chapter defines it, all of it written out.
type telling struct {
	off          int
	tares, loads []int
}

// all returns all lists that have one of the numbers of each span.
func all(spans []api.Span) [][]int {
	lists := [][]int{nil}
	for _, s := range spans {
		var longer [][]int
		for _, l := range lists {
			for n := s.Low; n <= s.High; n++ {
				longer = append(longer, append(slices.Clone(l), n))
			}
		}
		lists = longer
	}
	return lists
}

// tellings returns all truths of a book, whether its passes are right or not.
func tellings(b api.WeighBook) []telling {
	var tares, loads []api.Span
	for _, w := range b.Wagons {
		tares = append(tares, w.Tare)
	}
	for _, p := range b.Passes {
		loads = append(loads, p.Load)
	}
	var l []telling
	for off := b.Off.Low; off <= b.Off.High; off++ {
		for _, t := range all(tares) {
			for _, c := range all(loads) {
				l = append(l, telling{off, t, c})
			}
		}
	}
	return l
}

func (t telling) weight(b api.WeighBook, pass int) int {
	return t.tares[b.Passes[pass].Wagon] + t.loads[pass]
}

func (t telling) isRight(b api.WeighBook, pass int) bool {
	off := b.Passes[pass].Shown - t.weight(b, pass) - t.off
	return -b.Passes[pass].Error <= off && off <= b.Passes[pass].Error
}

func tollOf(b api.WeighBook, pass, weight int) int {
	toll := b.Tolls[b.Wagons[b.Passes[pass].Wagon].Wheel]
	pence := toll.Base
	for n := toll.Free; n < weight; n++ {
		pence += toll.Rate
	}
	return pence
}

// truths returns those truths in which all passes are right that are not left out.
func truths(b api.WeighBook, l []telling, out ...int) []telling {
	var right []telling
	for _, t := range l {
		is := true
		for pass := range b.Passes {
			is = is && (slices.Contains(out, pass) || t.isRight(b, pass))
		}
		if is {
			right = append(right, t)
		}
	}
	return right
}

// spanOf returns the least and the greatest number that f has of truths.
func spanOf(l []telling, f func(telling) int) api.Span {
	s := just(f(l[0]))
	for _, t := range l {
		s = to(min(s.Low, f(t)), max(s.High, f(t)))
	}
	return s
}

func randomSpan(r *rand.Rand, low, most, wide int) api.Span {
	n := low + r.Intn(most+1-low)
	return to(n, min(most, n+r.Intn(wide+1)))
}

// randomBook returns a small book whose passes mostly are right of one of its truths, and that truth.
func randomBook(r *rand.Rand) (api.WeighBook, telling) {
	b := api.WeighBook{Off: randomSpan(r, -9, 9, r.Intn(5))}
	for range 1 + r.Intn(3) {
		b.Wagons = append(b.Wagons, wagon(randomSpan(r, 9, 60, r.Intn(4)), r.Intn(3)))
	}
	for wheel := range b.Tolls {
		b.Tolls[wheel] = api.WeighToll{Free: r.Intn(121), Base: r.Intn(100), Rate: r.Intn(10)}
	}
	truth := telling{off: numberOf(r, b.Off)}
	for _, w := range b.Wagons {
		truth.tares = append(truth.tares, numberOf(r, w.Tare))
	}
	for range r.Intn(5) {
		p := randomPass(r, b, truth)
		truth.loads = append(truth.loads, p.Load.Low)
		b.Passes = append(b.Passes, p)
	}
	return b, truth
}

func numberOf(r *rand.Rand, s api.Span) int { return s.Low + r.Intn(s.High-s.Low+1) }

// randomPass returns a pass whose load is the least of its span in the truth, rightly read; what was paid is about the toll.
func randomPass(r *rand.Rand, b api.WeighBook, truth telling) api.WeighPass {
	p := pass(r.Intn(len(b.Wagons)), randomSpan(r, 0, 60, r.Intn(4)), 0, r.Intn(1+r.Intn(6)), 0)
	weight := truth.tares[p.Wagon] + p.Load.Low
	p.Shown = max(0, weight+truth.off+r.Intn(2*p.Error+1)-p.Error)
	b.Passes = []api.WeighPass{p}
	p.Paid = min(999, max(0, tollOf(b, 0, weight)+r.Intn(40)-20))
	return p
}

// spoil reads one of the passes wrongly, now and then.
func spoil(r *rand.Rand, b *api.WeighBook) {
	for pass := range b.Passes {
		if r.Intn(4) == 0 {
			b.Passes[pass].Shown = min(150, max(0, b.Passes[pass].Shown+r.Intn(9)-4))
		}
	}
}

func eachRandomBook(count int, f func(r *rand.Rand, b api.WeighBook, truth telling)) {
	r := rand.New(rand.NewSource(1))
	for range count {
		b, truth := randomBook(r)
		f(r, b, truth)
	}
}

// TestAgainstAllTruths holds all answers against those of all truths, one by one (P2.1 to P2.8).
func TestAgainstAllTruths(t *testing.T) {
	eachRandomBook(2000, func(r *rand.Rand, b api.WeighBook, truth telling) {
		further := randomPass(r, b, truth)
		further.Shown = min(150, max(0, further.Shown+r.Intn(7)-3))
		spoil(r, &b)
		l := tellings(b)
		right := truths(b, l)
		if is, e := weigh.Right(b); is != (len(right) > 0) || e != api.OK {
			t.Fatalf("%+v: Right: %v, %d", b, is, e)
		}
		holdWrong(t, b, l)
		if len(right) == 0 {
			if _, e := weigh.Off(b); e != api.ErrWeighFalse {
				t.Fatalf("%+v: Off: %d", b, e)
			}
			return
		}
		holdWagons(t, b, right)
		holdPasses(t, b, right)
		holdAgain(t, b, right)
		holdFits(t, b, right, further)
	})
}

func holdWagons(t *testing.T, b api.WeighBook, right []telling) {
	want := spanOf(right, func(t telling) int { return t.off })
	if s, e := weigh.Off(b); s != want || e != api.OK {
		t.Fatalf("%+v: Off: %v, %d; want %v", b, s, e, want)
	}
	for n := range b.Wagons {
		want := spanOf(right, func(t telling) int { return t.tares[n] })
		if s, e := weigh.Tare(b, n); s != want || e != api.OK {
			t.Fatalf("%+v: Tare %d: %v, %d; want %v", b, n, s, e, want)
		}
	}
}

func holdPasses(t *testing.T, b api.WeighBook, right []telling) {
	var over []int
	for n, p := range b.Passes {
		weighs := spanOf(right, func(t telling) int { return t.weight(b, n) })
		pays := spanOf(right, func(t telling) int { return tollOf(b, n, t.weight(b, n)) })
		back := spanOf(right, func(t telling) int { return max(0, p.Paid-tollOf(b, n, t.weight(b, n))) })
		if back.Low > 0 {
			over = append(over, n)
		}
		if s, e := weigh.Weighs(b, n); s != weighs || e != api.OK {
			t.Fatalf("%+v: Weighs %d: %v, %d; want %v", b, n, s, e, weighs)
		}
		if s, e := weigh.Pays(b, n); s != pays || e != api.OK {
			t.Fatalf("%+v: Pays %d: %v, %d; want %v", b, n, s, e, pays)
		}
		if s, e := weigh.Back(b, n); s != back || e != api.OK {
			t.Fatalf("%+v: Back %d: %v, %d; want %v", b, n, s, e, back)
		}
	}
	if l, e := weigh.Over(b); !slices.Equal(l, over) || e != api.OK {
		t.Fatalf("%+v: Over: %v, %d; want %v", b, l, e, over)
	}
}

// holdAgain knows each tare of each wagon, one after the other, and measures what each pass weighs then.
func holdAgain(t *testing.T, b api.WeighBook, right []telling) {
	best, least := -1, 0
	for n := range b.Wagons {
		tare := spanOf(right, func(t telling) int { return t.tares[n] })
		if tare.Low == tare.High {
			continue
		}
		worst := 0
		for is := tare.Low; is <= tare.High; is++ {
			var those []telling
			for _, t := range right {
				if t.tares[n] == is {
					those = append(those, t)
				}
			}
			apart := 0
			for pass := range b.Passes {
				s := spanOf(those, func(t telling) int { return t.weight(b, pass) })
				apart += s.High - s.Low
			}
			worst = max(worst, apart)
		}
		if best == -1 || worst < least {
			best, least = n, worst
		}
	}
	n, e := weigh.Again(b)
	if best == -1 && (n != 0 || e != api.ErrNone) || best != -1 && (n != best || e != api.OK) {
		t.Fatalf("%+v: Again: %d, %d; want %d", b, n, e, best)
	}
}

func holdFits(t *testing.T, b api.WeighBook, right []telling, further api.WeighPass) {
	want := false
	for _, t := range right {
		for load := further.Load.Low; load <= further.Load.High; load++ {
			off := further.Shown - t.tares[further.Wagon] - load - t.off
			want = want || -further.Error <= off && off <= further.Error
		}
	}
	if is, e := weigh.Fits(b, further); is != want || e != api.OK {
		t.Fatalf("%+v: Fits %v: %v, %d", b, further, is, e)
	}
}

// holdWrong goes through all lists of passes, and takes the shortest one, the first of several (P2.7, P2.13).
func holdWrong(t *testing.T, b api.WeighBook, l []telling) {
	var best []int
	found := false
	for set := range 1 << len(b.Passes) {
		var out []int
		for pass := range b.Passes {
			if set>>pass&1 == 1 {
				out = append(out, pass)
			}
		}
		if len(truths(b, l, out...)) == 0 {
			continue
		}
		if !found || len(out) < len(best) || len(out) == len(best) && slices.Compare(out, best) < 0 {
			best, found = out, true
		}
	}
	if got, e := weigh.Wrong(b); !slices.Equal(got, best) || e != api.OK {
		t.Fatalf("%+v: Wrong: %v, %d; want %v", b, got, e, best)
	}
}

func within(s, outer api.Span) bool { return outer.Low <= s.Low && s.High <= outer.High }

// TestWeightThatItSurelyHas has passes that were rightly read: what is so lies in all that is told (P2.10).
func TestWeightThatItSurelyHas(t *testing.T) {
	eachRandomBook(1000, func(r *rand.Rand, b api.WeighBook, truth telling) {
		is, _ := weigh.Right(b)
		wrong, _ := weigh.Wrong(b)
		off, _ := weigh.Off(b)
		if !is || len(wrong) > 0 || !within(just(truth.off), off) {
			t.Fatalf("%+v: Right %v, Wrong %v, Off %v; truly %d", b, is, wrong, off, truth.off)
		}
		for n, tare := range truth.tares {
			if s, e := weigh.Tare(b, n); !within(just(tare), s) || e != api.OK {
				t.Fatalf("%+v: Tare %d: %v, %d; truly %d", b, n, s, e, tare)
			}
		}
		over, _ := weigh.Over(b)
		for n, p := range b.Passes {
			weight := truth.weight(b, n)
			toll := tollOf(b, n, weight)
			weighs, _ := weigh.Weighs(b, n)
			pays, _ := weigh.Pays(b, n)
			back, _ := weigh.Back(b, n)
			if !within(just(weight), weighs) || !within(just(toll), pays) || !within(just(max(0, p.Paid-toll)), back) {
				t.Fatalf("%+v: the pass %d: %v, %v, %v; truly %d, %d", b, n, weighs, pays, back, weight, toll)
			}
			if slices.Contains(over, n) && p.Paid <= toll {
				t.Fatalf("%+v: Over: %v; the pass %d truly has to pay %d", b, over, n, toll)
			}
		}
	})
}

// TestEndsCanBeSo has books that say what the fault, or a tare, is: both ends can be so, what is beside them cannot (P2.11).
func TestEndsCanBeSo(t *testing.T) {
	eachRandomBook(500, func(r *rand.Rand, b api.WeighBook, _ telling) {
		hold := func(what string, known, s api.Span, say func(n int) api.WeighBook) {
			for n := known.Low; n <= known.High; n++ {
				is, e := weigh.Right(say(n))
				if want := within(just(n), s); e != api.OK || (n == s.Low || n == s.High || !want) && is != want {
					t.Fatalf("%+v: %s is %v, said %d: %v, %d", b, what, s, n, is, e)
				}
			}
		}
		s, _ := weigh.Off(b)
		hold("Off", b.Off, s, func(n int) api.WeighBook {
			said := b
			said.Off = just(n)
			return said
		})
		for i, w := range b.Wagons {
			s, _ := weigh.Tare(b, i)
			hold("Tare", w.Tare, s, func(n int) api.WeighBook {
				said := cloneBook(b)
				said.Wagons[i].Tare = just(n)
				return said
			})
		}
	})
}

// TestOnePassMore adds a pass: nothing is known less well (P2.12).
func TestOnePassMore(t *testing.T) {
	eachRandomBook(1000, func(r *rand.Rand, b api.WeighBook, truth telling) {
		with := cloneBook(b)
		with.Passes = append(with.Passes, randomPass(r, b, truth))
		one, two := append([]api.Span{faultOf(b)}, spans(b)...), append([]api.Span{faultOf(with)}, spans(with)...)
		for i := range one {
			if !within(two[i], one[i]) {
				t.Fatalf("%+v: %v; with one more %v", with, one, two)
			}
		}
		few, _ := weigh.Over(b)
		many, _ := weigh.Over(with)
		for _, n := range few {
			if !slices.Contains(many, n) {
				t.Fatalf("%+v: Over %v; with one more %v", with, few, many)
			}
		}
	})
}

func faultOf(b api.WeighBook) api.Span {
	s, _ := weigh.Off(b)
	return s
}

// spans returns what is told of all wagons, and then of all passes.
func spans(b api.WeighBook) []api.Span {
	var l []api.Span
	for n := range b.Wagons {
		s, _ := weigh.Tare(b, n)
		l = append(l, s)
	}
	for n := range b.Passes {
		for _, f := range []func(api.WeighBook, int) (api.Span, api.Errno){weigh.Weighs, weigh.Pays, weigh.Back} {
			s, _ := f(b, n)
			l = append(l, s)
		}
	}
	return l
}

// TestWeighedEmpty weighs a wagon empty, without an error: its tare is what was shown, less the fault (P2.12).
func TestWeighedEmpty(t *testing.T) {
	eachRandomBook(1000, func(r *rand.Rand, b api.WeighBook, truth telling) {
		n := r.Intn(len(b.Wagons))
		shown := truth.tares[n] + truth.off
		b.Passes = append(b.Passes, empty(n, shown))
		off, e := weigh.Off(b)
		tare, f := weigh.Tare(b, n)
		weight, g := weigh.Weighs(b, len(b.Passes)-1)
		if tare != to(shown-off.High, shown-off.Low) || weight != tare || e != api.OK || f != api.OK || g != api.OK {
			t.Fatalf("%+v: Off %v, Tare %d: %v, Weighs %v", b, off, n, tare, weight)
		}
	})
}

// TestWithoutThose leaves out the passes that must be false: the book can be true then, and with one of them it cannot (P2.13).
func TestWithoutThose(t *testing.T) {
	eachRandomBook(1000, func(r *rand.Rand, b api.WeighBook, _ telling) {
		spoil(r, &b)
		wrong, e := weigh.Wrong(b)
		if e != api.OK {
			t.Fatalf("%+v: Wrong: %d", b, e)
		}
		for _, skip := range append(slices.Clone(wrong), -1) {
			less := b
			less.Passes = nil
			for i, p := range b.Passes {
				if !slices.Contains(wrong, i) || i == skip {
					less.Passes = append(less.Passes, p)
				}
			}
			if is, e := weigh.Right(less); is != (skip == -1) || e != api.OK {
				t.Fatalf("%+v: without %v but %d: %v, %d", b, wrong, skip, is, e)
			}
		}
	})
}

// TestGreaterFault lets the bridge show so much more, and its fault be so much greater: the same is told of all wagons (P2.14).
func TestGreaterFault(t *testing.T) {
	eachRandomBook(1000, func(r *rand.Rand, b api.WeighBook, _ telling) {
		spoil(r, &b)
		more := r.Intn(api.WeighOff - b.Off.High + 1)
		greater := cloneBook(b)
		greater.Off = to(b.Off.Low+more, b.Off.High+more)
		for pass := range b.Passes {
			greater.Passes[pass].Shown += more
		}
		if e := weigh.Check(greater); e != api.OK {
			return
		}
		off, e := weigh.Off(b)
		other, f := weigh.Off(greater)
		if e != f || e == api.OK && other != to(off.Low+more, off.High+more) {
			t.Fatalf("%+v: Off: %v, %d; with %d more: %v, %d", b, off, e, more, other, f)
		}
		if !slices.Equal(spans(b), spans(greater)) {
			t.Fatalf("%+v: with %d more: other spans", b, more)
		}
		one, two := ask(b, 0, 0, empty(0, 0)), ask(greater, 0, 0, empty(0, 0))
		for _, name := range []string{"Right", "Over", "Wrong", "Again"} {
			if !reflect.DeepEqual(one[name], two[name]) {
				t.Fatalf("%+v: %s: %+v; with %d more: %+v", b, name, one[name], more, two[name])
			}
		}
	})
}

func BenchmarkAgain(bench *testing.B) {
	b := full()
	for bench.Loop() {
		weigh.Again(b)
	}
}

func BenchmarkWrong(bench *testing.B) {
	b := full(passes(slices.Repeat([]api.WeighPass{empty(0, 150)}, 6)...))
	for bench.Loop() {
		weigh.Wrong(b)
	}
}
