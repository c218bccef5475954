package toll_test

import (
	"math/rand"
	"slices"
	"testing"

	"macadam/api"
	"macadam/toll"
	"macadam/weigh"
)

// telling is a truth as the chapter defines it, all of it written out: what each pass weighs, and whether a journey begins with each passage.
type telling struct {
	weights []int
	begins  []bool
}

// choices returns all lists that have one of the numbers of each span.
func choices(spans []api.Span) [][]int {
	lists := [][]int{nil}
	for _, s := range spans {
		var longer [][]int
		for _, l := range lists {
			for n := s.Low; n <= s.High; n++ {
				longer = append(longer, append(slices.Clone(l), n))
			}
		}
		lists = longer
	}
	return lists
}

// beginningsOf returns all lists of beginnings, whether they can be so or not.
func beginningsOf(b api.TollBook) [][]bool {
	var all [][]bool
	for set := range 1 << len(b.Passages) {
		l := make([]bool, len(b.Passages))
		for n := range l {
			l[n] = set>>n&1 == 1
		}
		all = append(all, l)
	}
	return all
}

// journeys returns all journeys of a wagon, each of them a list of passages; the first one begins with the first passage.
func (t telling) journeys(b api.TollBook, wagon int) [][]int {
	var all [][]int
	for n, p := range b.Passages {
		if p.Wagon != wagon {
			continue
		}
		if t.begins[n] || all == nil {
			all = append(all, nil)
		}
		all[len(all)-1] = append(all[len(all)-1], n)
	}
	return all
}

// canBe tells by the definition whether journeys begin with these passages in some truth.
func (t telling) canBe(b api.TollBook) bool {
	for wagon := range b.Weigh.Wagons {
		isFirst := true
		for n, p := range b.Passages {
			if p.Wagon != wagon {
				continue
			}
			if isFirst && !t.begins[n] || !isFirst && (p.New == begins && !t.begins[n] || p.New == goes && t.begins[n]) {
				return false
			}
			isFirst = false
		}
		for _, l := range t.journeys(b, wagon) {
			var passed [10]int
			for _, n := range l {
				passed[b.Passages[n].Gate]++
			}
			if slices.Max(passed[:]) > 2 {
				return false
			}
		}
	}
	return true
}

// tellings returns all truths of a book; there are none if it cannot be true.
func tellings(b api.TollBook) []telling {
	if is, _ := weigh.Right(b.Weigh); !is {
		return nil
	}
	var spans []api.Span
	for n := range b.Weigh.Passes {
		s, _ := weigh.Weighs(b.Weigh, n)
		spans = append(spans, s)
	}
	var l []telling
	weights := choices(spans)
	for _, begins := range beginningsOf(b) {
		if !(telling{nil, begins}).canBe(b) {
			continue
		}
		for _, w := range weights {
			l = append(l, telling{w, begins})
		}
	}
	return l
}

func (t telling) toll(b api.TollBook, n int) int {
	p := b.Passages[n]
	tolls := b.Weigh.Tolls[p.Seen]
	pence := tolls.Base
	for w := tolls.Free; w < t.weights[p.Pass]; w++ {
		pence += tolls.Rate
	}
	return pence
}

func (t telling) owes(b api.TollBook, wagon int) int {
	all := 0
	for _, l := range t.journeys(b, wagon) {
		most := 0
		for _, n := range l {
			most = max(most, t.toll(b, n))
		}
		all += most
	}
	return all
}

func (t telling) debt(b api.TollBook, wagon int) int {
	all := t.owes(b, wagon)
	for _, p := range b.Passages {
		if p.Wagon == wagon {
			all -= p.Paid
		}
	}
	return all
}

// twice returns all passages that were charged twice.
func (t telling) twice(b api.TollBook) []int {
	var all []int
	for wagon := range b.Weigh.Wagons {
		for _, l := range t.journeys(b, wagon) {
			isPaid := false
			for _, n := range l {
				if b.Passages[n].Paid > 0 && isPaid {
					all = append(all, n)
				}
				isPaid = isPaid || b.Passages[n].Paid > 0
			}
		}
	}
	slices.Sort(all)
	return all
}

// changed returns all wagons that changed wheels.
func (t telling) changed(b api.TollBook) []int {
	var all []int
	for wagon := range b.Weigh.Wagons {
		isSo := false
		for _, l := range t.journeys(b, wagon) {
			for _, one := range l {
				for _, two := range l {
					isSo = isSo || b.Passages[one].Seen != b.Passages[two].Seen
				}
			}
		}
		if isSo {
			all = append(all, wagon)
		}
	}
	return all
}

// spanOf returns the least and the greatest number that f has of truths.
func spanOf(l []telling, f func(telling) int) api.Span {
	s := just(f(l[0]))
	for _, t := range l {
		n := f(t)
		s = to(min(s.Low, n), max(s.High, n))
	}
	return s
}

// among returns all numbers below count that are in the lists of some truths, and those that are in the list of each.
func among(l []telling, count int, f func(telling) []int) (some, each []int) {
	times := make([]int, count)
	for _, t := range l {
		for _, n := range f(t) {
			times[n]++
		}
	}
	for n := range count {
		if times[n] > 0 {
			some = append(some, n)
		}
		if times[n] == len(l) {
			each = append(each, n)
		}
	}
	return some, each
}

func apart(b api.TollBook, l []telling) int {
	all := 0
	for wagon := range b.Weigh.Wagons {
		s := spanOf(l, func(t telling) int { return t.debt(b, wagon) })
		all += s.High - s.Low
	}
	return all
}

// best returns the passage that it is best to ask about, or -1.
func best(b api.TollBook, l []telling) int {
	all, least := -1, 0
	for n := range b.Passages {
		var is, not []telling
		for _, t := range l {
			if t.begins[n] {
				is = append(is, t)
			} else {
				not = append(not, t)
			}
		}
		if len(is) == 0 || len(not) == 0 {
			continue
		}
		if worst := max(apart(b, is), apart(b, not)); all == -1 || worst < least {
			all, least = n, worst
		}
	}
	return all
}

func numberOf(r *rand.Rand, s api.Span) int { return s.Low + r.Intn(s.High-s.Low+1) }

func randomSpan(r *rand.Rand, low, most, wide int) api.Span {
	n := low + r.Intn(most+1-low)
	return to(n, min(most, n+r.Intn(wide+1)))
}

// randomWeigh returns a book of layer 2 whose passes are right of one of its truths, and what they weigh in it. Ends are at most so far apart.
func randomWeigh(r *rand.Rand, passes, wide int) (api.WeighBook, []int) {
	b := api.WeighBook{Off: randomSpan(r, -9, 9, wide)}
	var tares, weights []int
	for range 1 + r.Intn(3) {
		tare := randomSpan(r, 9, 60, wide)
		b.Wagons = append(b.Wagons, api.WeighWagon{Tare: tare, Wheel: r.Intn(3)})
		tares = append(tares, numberOf(r, tare))
	}
	for wheels := range b.Tolls {
		b.Tolls[wheels] = api.WeighToll{Free: r.Intn(100), Base: r.Intn(100), Rate: r.Intn(10)}
	}
	off := numberOf(r, b.Off)
	for range max(r.Intn(passes+1), r.Intn(passes+1)) {
		p := api.WeighPass{Wagon: r.Intn(len(b.Wagons)), Load: randomSpan(r, 0, 60, wide), Error: r.Intn(1 + r.Intn(4)*wide)}
		weight := tares[p.Wagon] + numberOf(r, p.Load)
		p.Error = min(p.Error, api.WeighError)
		p.Shown = max(0, weight+off+r.Intn(2*p.Error+1)-p.Error)
		b.Passes = append(b.Passes, p)
		weights = append(weights, weight)
	}
	return b, weights
}

// randomBook returns a book of no more than so many passages, and one of its truths.
func randomBook(r *rand.Rand, passes, wide, count int) (api.TollBook, telling) {
	var b api.TollBook
	var truth telling
	b.Weigh, truth.weights = randomWeigh(r, passes, wide)
	if len(b.Weigh.Passes) == 0 {
		return b, truth
	}
	gates, wheels, rare := 1+r.Intn(4), 1+r.Intn(3), 1+r.Intn(4)
	for range max(r.Intn(count+1), r.Intn(count+1)) {
		n := r.Intn(len(b.Weigh.Passes))
		p := passage(r.Intn(gates)*3, b.Weigh.Passes[n].Wagon, n, r.Intn(wheels), perhaps, r.Intn(2)*r.Intn(2*api.TollPaid)/2)
		b.Passages = append(b.Passages, p)
		truth.begins = append(truth.begins, r.Intn(rare) == 0)
		settle(r, b, truth)
	}
	return b, truth
}

// settle lets a journey begin with the last passage of a book where it must, and tells of it, or not.
func settle(r *rand.Rand, b api.TollBook, truth telling) {
	last := len(b.Passages) - 1
	if !truth.canBe(b) {
		truth.begins[last] = true
	}
	isFirst := !slices.ContainsFunc(b.Passages[:last], func(p api.TollPassage) bool { return p.Wagon == b.Passages[last].Wagon })
	switch {
	case isFirst:
		b.Passages[last].New = r.Intn(3)
	case r.Intn(2) == 0 && truth.begins[last]:
		b.Passages[last].New = begins
	case r.Intn(2) == 0 && !truth.begins[last]:
		b.Passages[last].New = goes
	}
}

// spoil tells the opposite of a passage, or lets the bridge show something else, now and then.
func spoil(r *rand.Rand, b *api.TollBook) {
	for n := range b.Passages {
		if r.Intn(8) == 0 {
			b.Passages[n].New = r.Intn(3)
		}
	}
	if n := len(b.Weigh.Passes); n > 0 && r.Intn(8) == 0 {
		b.Weigh.Passes[r.Intn(n)].Shown = r.Intn(api.WeighShown + 1)
	}
}

// eachRandomBook calls f with small books of which little is known, and with greater ones of which the weights are known.
func eachRandomBook(count int, f func(r *rand.Rand, b api.TollBook, truth telling)) {
	r := rand.New(rand.NewSource(1))
	for n := range count {
		b, truth := randomBook(r, 3, 2, 6)
		if n%2 == 1 {
			b, truth = randomBook(r, api.WeighPasses, 0, api.TollPassages)
		}
		f(r, b, truth)
	}
}

// TestAgainstAllTruths holds all answers against those of all truths, one by one (P10.1 to P10.7).
func TestAgainstAllTruths(t *testing.T) {
	eachRandomBook(2000, func(r *rand.Rand, b api.TollBook, _ telling) {
		spoil(r, &b)
		l := tellings(b)
		if is, e := toll.Right(b); is != (len(l) > 0) || e != api.OK {
			t.Fatalf("%+v: Right: %v, %d", b, is, e)
		}
		if len(l) == 0 {
			for name, a := range ask(b, 0, 0) {
				isAsk := name == "Toll" && len(b.Passages) == 0
				if name != "Right" && !isNothingBut(a, api.ErrTollFalse) && !isAsk {
					t.Fatalf("%+v: %s: %+v", b, name, a)
				}
			}
			return
		}
		holdSpans(t, b, l)
		holdLists(t, b, l)
		want, f := best(b, l), api.OK
		if want == -1 {
			want, f = 0, api.ErrNone
		}
		if n, e := toll.Ask(b); n != want || e != f {
			t.Fatalf("%+v: Ask: %d, %d; want %d, %d", b, n, e, want, f)
		}
	})
}

func holdSpans(t *testing.T, b api.TollBook, l []telling) {
	hold := func(name string, n int, f func(api.TollBook, int) (api.Span, api.Errno), of func(telling) int) {
		t.Helper()
		want := spanOf(l, of)
		if s, e := f(b, n); s != want || e != api.OK {
			t.Fatalf("%+v: %s of %d: %v, %d; want %v", b, name, n, s, e, want)
		}
	}
	for n := range b.Passages {
		hold("Toll", n, toll.Toll, func(t telling) int { return t.toll(b, n) })
	}
	for n := range b.Weigh.Wagons {
		hold("Journeys", n, toll.Journeys, func(t telling) int { return len(t.journeys(b, n)) })
		hold("Owes", n, toll.Owes, func(t telling) int { return t.owes(b, n) })
		hold("Debt", n, toll.Debt, func(t telling) int { return t.debt(b, n) })
	}
}

func holdLists(t *testing.T, b api.TollBook, l []telling) {
	hold := func(name string, f func(api.TollBook) ([]int, api.Errno), want []int) {
		t.Helper()
		if l, e := f(b); !slices.Equal(l, want) || e != api.OK {
			t.Fatalf("%+v: %s: %v, %d; want %v", b, name, l, e, want)
		}
	}
	some, each := among(l, len(b.Passages), func(t telling) []int { return t.twice(b) })
	hold("Twice", toll.Twice, each)
	hold("May", toll.May, some)
	_, each = among(l, len(b.Weigh.Wagons), func(t telling) []int { return t.changed(b) })
	hold("Changed", toll.Changed, each)
}

func within(s, outer api.Span) bool { return outer.Low <= s.Low && s.High <= outer.High }

// isPart reports whether all numbers of a list are in another one.
func isPart(l, other []int) bool {
	return !slices.ContainsFunc(l, func(n int) bool { return !slices.Contains(other, n) })
}

// TestChargedOnce has books of which one truth is drawn: what is so in it lies in all that is told (P10.9).
func TestChargedOnce(t *testing.T) {
	eachRandomBook(3000, func(r *rand.Rand, b api.TollBook, truth telling) {
		is, e := toll.Right(b)
		twice, f := toll.Twice(b)
		may, g := toll.May(b)
		wagons, h := toll.Changed(b)
		if !is || e != api.OK || f != api.OK || g != api.OK || h != api.OK {
			t.Fatalf("%+v: Right: %v, %d, Twice: %d, May: %d, Changed: %d; truly %+v", b, is, e, f, g, h, truth)
		}
		if !isPart(twice, truth.twice(b)) || !isPart(truth.twice(b), may) || !isPart(wagons, truth.changed(b)) {
			t.Fatalf("%+v: Twice %v, May %v, Changed %v; truly %+v", b, twice, may, wagons, truth)
		}
		for n := range b.Passages {
			if s, e := toll.Toll(b, n); !within(just(truth.toll(b, n)), s) || e != api.OK {
				t.Fatalf("%+v: Toll %d: %v, %d; truly %+v", b, n, s, e, truth)
			}
		}
		for n := range b.Weigh.Wagons {
			journeys, e := toll.Journeys(b, n)
			owes, f := toll.Owes(b, n)
			debt, g := toll.Debt(b, n)
			if !within(just(len(truth.journeys(b, n))), journeys) || !within(just(truth.owes(b, n)), owes) || !within(just(truth.debt(b, n)), debt) || e != api.OK || f != api.OK || g != api.OK {
				t.Fatalf("%+v: of %d: Journeys %v, %d, Owes %v, %d, Debt %v, %d; truly %+v", b, n, journeys, e, owes, f, debt, g, truth)
			}
		}
	})
}

// pinned is a book in which each pass weighs so much, rightly read without a fault of the bridge, and in which it is known with which passages journeys begin.
func pinned(b api.TollBook, weights []int, starts []bool) api.TollBook {
	b = cloneBook(b)
	b.Weigh.Off = just(0)
	for n, w := range b.Weigh.Wagons {
		b.Weigh.Wagons[n].Tare = just(w.Tare.Low)
	}
	for n, p := range b.Weigh.Passes {
		b.Weigh.Passes[n] = api.WeighPass{Wagon: p.Wagon, Load: just(weights[n] - b.Weigh.Wagons[p.Wagon].Tare.Low), Shown: weights[n]}
	}
	for n := range b.Passages {
		b.Passages[n].New = goes
		if starts[n] {
			b.Passages[n].New = begins
		}
	}
	return b
}

// TestBothEndsAreSo knows all weights to be the least, and the greatest, and journeys to begin so: in one of these books a wagon owes just what is told at this end, and in none it owes less, or more (P10.10).
func TestBothEndsAreSo(t *testing.T) {
	eachRandomBook(500, func(r *rand.Rand, b api.TollBook, _ telling) {
		var lows, highs []int
		for n := range b.Weigh.Passes {
			s, _ := weigh.Weighs(b.Weigh, n)
			lows, highs = append(lows, s.Low), append(highs, s.High)
		}
		if toll.Check(pinned(b, highs, make([]bool, len(b.Passages)))) != api.OK {
			return
		}
		for wagon := range b.Weigh.Wagons {
			told, _ := toll.Owes(b, wagon)
			isLow, isHigh := false, false
			for _, starts := range beginningsOf(b) {
				if !(telling{nil, starts}).canBe(b) {
					continue
				}
				low, e := toll.Owes(pinned(b, lows, starts), wagon)
				high, f := toll.Owes(pinned(b, highs, starts), wagon)
				if low.Low != low.High || high.Low != high.High || low.Low < told.Low || high.High > told.High || e != api.OK || f != api.OK {
					t.Fatalf("%+v: Owes %d: %v; with the beginnings %v: %v, %d, %v, %d", b, wagon, told, starts, low, e, high, f)
				}
				isLow, isHigh = isLow || low.Low == told.Low, isHigh || high.High == told.High
			}
			if !isLow || !isHigh {
				t.Fatalf("%+v: Owes %d: %v: %v, %v", b, wagon, told, isLow, isHigh)
			}
		}
	})
}

// TestSurelyMayBe has passages that surely were charged twice: each of them may have been (P10.11).
func TestSurelyMayBe(t *testing.T) {
	eachRandomBook(3000, func(r *rand.Rand, b api.TollBook, _ telling) {
		spoil(r, &b)
		twice, e := toll.Twice(b)
		may, f := toll.May(b)
		if e != f || !isPart(twice, may) {
			t.Fatalf("%+v: Twice %v, %d; May %v, %d", b, twice, e, may, f)
		}
	})
}

// TestEachBegins lets each journey begin with each passage: each wagon owes all of its tolls (P10.11).
func TestEachBegins(t *testing.T) {
	eachRandomBook(3000, func(r *rand.Rand, b api.TollBook, _ telling) {
		for n := range b.Passages {
			b.Passages[n].New = begins
		}
		twice, e := toll.Twice(b)
		may, f := toll.May(b)
		wagons, g := toll.Changed(b)
		if len(twice)+len(may)+len(wagons) > 0 || e != api.OK || f != api.OK || g != api.OK {
			t.Fatalf("%+v: Twice %v, %d, May %v, %d, Changed %v, %d", b, twice, e, may, f, wagons, g)
		}
		all := make([]api.Span, len(b.Weigh.Wagons))
		for n, p := range b.Passages {
			s, _ := toll.Toll(b, n)
			all[p.Wagon] = to(all[p.Wagon].Low+s.Low, all[p.Wagon].High+s.High)
		}
		for n, want := range all {
			if s, e := toll.Owes(b, n); s != want || e != api.OK {
				t.Fatalf("%+v: Owes %d: %v, %d; want %v", b, n, s, e, want)
			}
		}
	})
}

// TestOnePassageMoreIsKnown tells of a passage more whether a journey begins with it: nothing is known less well (P10.12).
func TestOnePassageMoreIsKnown(t *testing.T) {
	eachRandomBook(1000, func(r *rand.Rand, b api.TollBook, truth telling) {
		for n := range b.Passages {
			if b.Passages[n].New != perhaps {
				continue
			}
			told := changed(b, isNew(n, map[bool]int{true: begins, false: goes}[truth.begins[n]]))
			holdNarrower(t, b, told)
			one, e := toll.Twice(b)
			two, f := toll.Twice(told)
			few, g := toll.May(told)
			many, h := toll.May(b)
			if !isPart(one, two) || !isPart(few, many) || e != api.OK || f != api.OK || g != api.OK || h != api.OK {
				t.Fatalf("%+v: Twice %v, %d, May %v, %d; told of %d: %v, %d, %v, %d", b, one, e, many, h, n, two, f, few, g)
			}
			one, e = toll.Changed(b)
			two, f = toll.Changed(told)
			if !isPart(one, two) || e != api.OK || f != api.OK {
				t.Fatalf("%+v: Changed %v, %d; told of %d: %v, %d", b, one, e, n, two, f)
			}
		}
	})
}

// holdNarrower holds all spans of a book against those of another one of which more is known.
func holdNarrower(t *testing.T, b, told api.TollBook) {
	hold := func(name string, n int, f func(api.TollBook, int) (api.Span, api.Errno)) {
		t.Helper()
		one, e := f(b, n)
		two, g := f(told, n)
		if !within(two, one) || e != api.OK || g != api.OK {
			t.Fatalf("%+v: %s of %d: %v, %d; told more: %v, %d", b, name, n, one, e, two, g)
		}
	}
	for n := range b.Passages {
		hold("Toll", n, toll.Toll)
	}
	for n := range b.Weigh.Wagons {
		hold("Journeys", n, toll.Journeys)
		hold("Owes", n, toll.Owes)
		hold("Debt", n, toll.Debt)
	}
}

// TestOtherWagons draws other passages of all wagons but one, or leaves them out: what this one owes stays as it is (P10.13).
func TestOtherWagons(t *testing.T) {
	eachRandomBook(2000, func(r *rand.Rand, b api.TollBook, _ telling) {
		for wagon := range b.Weigh.Wagons {
			alone, others := cloneBook(b), cloneBook(b)
			alone.Passages = slices.DeleteFunc(alone.Passages, func(p api.TollPassage) bool { return p.Wagon != wagon })
			for n, p := range others.Passages {
				if p.Wagon != wagon {
					others.Passages[n] = passage(r.Intn(10), p.Wagon, p.Pass, r.Intn(3), 1+r.Intn(2), r.Intn(1000))
				}
			}
			for name, f := range map[string]func(api.TollBook, int) (api.Span, api.Errno){"Journeys": toll.Journeys, "Owes": toll.Owes, "Debt": toll.Debt} {
				one, e := f(b, wagon)
				two, g := f(alone, wagon)
				three, h := f(others, wagon)
				if one != two || one != three || e != api.OK || g != api.OK || h != api.OK {
					t.Fatalf("%+v: %s of %d: %v, %d; alone %v, %d; beside %+v: %v, %d", b, name, wagon, one, e, two, g, others.Passages, three, h)
				}
			}
		}
	})
}

// crowded has as many truths as there can be: of one wagon, and of a gate for each passage.
func crowded() api.TollBook {
	return full(func(b *api.TollBook) {
		for n := range b.Passages {
			b.Passages[n].Gate = n
		}
	})
}

func BenchmarkAsk(bench *testing.B) {
	b := crowded()
	for bench.Loop() {
		toll.Ask(b)
	}
}

func BenchmarkOwes(bench *testing.B) {
	b := crowded()
	for bench.Loop() {
		toll.Owes(b, 1)
	}
}
