package claim_test

import (
	"math"
	"reflect"
	"slices"
	"testing"

	"macadam/api"
	"macadam/claim"
)

// The weathers, as sets.
const (
	dry  = 1 << api.ClaimDry
	rain = 1 << api.ClaimRain
	snow = 1 << api.ClaimSnow
)

func to(low, high int) api.Span { return api.Span{Low: low, High: high} }

func just(n int) api.Span { return to(n, n) }

func stage(due int, drive, rough, stop api.Span) api.ClaimStage {
	return api.ClaimStage{Due: due, Drive: drive, Rough: rough, Stop: stop}
}

func clock(stage, read, wrong int) api.ClaimClock {
	return api.ClaimClock{Stage: stage, Read: read, Error: wrong}
}

type change func(b *api.ClaimBook)

// book is that of the chapter's examples, changed.
func book(changes ...change) api.ClaimBook {
	b := api.ClaimBook{
		Stages:   []api.ClaimStage{stage(30, to(26, 28), to(0, 2), to(3, 4)), stage(62, to(25, 26), to(2, 4), just(0))},
		Weathers: dry | rain,
		Costs:    [3]int{0, 2, 6},
		Rate:     5,
	}
	for _, c := range changes {
		c(&b)
	}
	return b
}

func stages(l ...api.ClaimStage) change { return func(b *api.ClaimBook) { b.Stages = l } }

func weathers(set int) change { return func(b *api.ClaimBook) { b.Weathers = set } }

func costs(dry, rain, snow int) change {
	return func(b *api.ClaimBook) { b.Costs = [3]int{dry, rain, snow} }
}

func clocks(l ...api.ClaimClock) change { return func(b *api.ClaimBook) { b.Clocks = l } }

func rate(n int) change { return func(b *api.ClaimBook) { b.Rate = n } }

// due is when the coach is due at the last stage of the chapter's book.
func due(n int) change { return func(b *api.ClaimBook) { b.Stages[1].Due = n } }

// read, tight and torn are what the chapter calls so.
func read() change { return clocks(clock(1, 66, 0)) }

func tight() change {
	return func(b *api.ClaimBook) {
		read()(b)
		due(61)(b)
	}
}

func torn() change { return clocks(clock(1, 66, 0), clock(0, 26, 0)) }

// three is a road of three stages.
func three(changes ...change) api.ClaimBook {
	return book(append([]change{stages(stage(12, just(10), to(1, 2), to(2, 3)), stage(26, to(8, 9), just(3), just(1)), stage(40, just(12), to(0, 2), to(0, 1))), weathers(dry | snow), costs(0, 9, 4)}, changes...)...)
}

// single is a stage of which all is known but the weather.
func single(due, drive, rough int, changes ...change) api.ClaimBook {
	return book(append([]change{stages(stage(due, just(drive), just(rough), just(0)))}, changes...)...)
}

// full has as much of everything as is allowed, at its upper limits.
func full(changes ...change) api.ClaimBook {
	b := api.ClaimBook{Weathers: dry | rain | snow, Costs: [3]int{28, 29, 30}, Rate: 99}
	for _, due := range []int{298, 299, 300} {
		b.Stages = append(b.Stages, stage(due, to(88, 90), to(28, 30), to(19, 20)))
	}
	b.Clocks = slices.Repeat([]api.ClaimClock{clock(2, 485, 5)}, api.ClaimClocks)
	for _, c := range changes {
		c(&b)
	}
	return b
}

// answer is what a function returns; what does not apply to it is zero.
type answer struct {
	span api.Span
	is   bool
	n    int
	list []int
	e    api.Errno
}

func isNothingBut(a answer, e api.Errno) bool {
	return len(a.list) == 0 && a.span == (api.Span{}) && !a.is && a.n == 0 && a.e == e
}

// ask calls all functions but Check.
func ask(b api.ClaimBook, stage int, clock api.ClaimClock) map[string]answer {
	all := map[string]answer{}
	var a answer
	put := func(name string) { all[name], a = a, answer{} }
	a.is, a.e = claim.Right(b)
	put("Right")
	a.span, a.e = claim.Comes(b, stage)
	put("Comes")
	a.span, a.e = claim.Late(b, stage)
	put("Late")
	a.span, a.e = claim.Rough(b, stage)
	put("Rough")
	a.n, a.e = claim.Weather(b)
	put("Weather")
	a.n, a.e = claim.Blame(b)
	put("Blame")
	a.span, a.e = claim.Owes(b)
	put("Owes")
	a.n, a.e = claim.Pays(b)
	put("Pays")
	a.is, a.e = claim.Fits(b, clock)
	put("Fits")
	a.list, a.e = claim.Wrong(b)
	put("Wrong")
	a.n, a.e = claim.First(b)
	put("First")
	return all
}

func checkSpan(t *testing.T, what string, got api.Span, e api.Errno, want api.Span) {
	t.Helper()
	if got != want || e != api.OK {
		t.Errorf("%s: %v, %d; want %v", what, got, e, want)
	}
}

func checkNumber(t *testing.T, what string, got int, e api.Errno, want int) {
	t.Helper()
	if got != want || e != api.OK {
		t.Errorf("%s: %d, %d; want %d", what, got, e, want)
	}
}

func checkIs(t *testing.T, what string, got bool, e api.Errno, want bool) {
	t.Helper()
	if got != want || e != api.OK {
		t.Errorf("%s: %v, %d; want %v", what, got, e, want)
	}
}

func checkList(t *testing.T, what string, got []int, e api.Errno, want ...int) {
	t.Helper()
	if !slices.Equal(got, want) || e != api.OK {
		t.Errorf("%s: %v, %d; want %v", what, got, e, want)
	}
}

// none is a stage that there is not.
const none = -1

// isStage reports whether a stage is the one that is wanted; none is wanted for ErrNone.
func isStage(got int, e api.Errno, want int) bool {
	if want == none {
		return got == 0 && e == api.ErrNone
	}
	return got == want && e == api.OK
}

// TestExamples has the examples of the chapter: first what is told of stages.
func TestExamples(t *testing.T) {
	type told func(b api.ClaimBook, stage int) (api.Span, api.Errno)
	for _, x := range []struct {
		what  string
		f     told
		b     api.ClaimBook
		stage int
		want  api.Span
	}{
		{"Comes", claim.Comes, book(), 0, to(26, 32)}, {"Comes", claim.Comes, book(), 1, to(56, 68)},
		{"read: Comes", claim.Comes, book(read()), 0, to(30, 32)}, {"read: Comes", claim.Comes, book(read()), 1, just(66)},
		{"Late", claim.Late, book(), 1, to(0, 6)}, {"read: Late", claim.Late, book(read()), 0, to(0, 2)}, {"read: Late", claim.Late, book(read()), 1, just(4)},
		{"Rough", claim.Rough, book(), 1, to(2, 4)}, {"read: Rough", claim.Rough, book(read()), 0, to(0, 2)}, {"read: Rough", claim.Rough, book(read()), 1, to(2, 4)},
	} {
		s, e := x.f(x.b, x.stage)
		checkSpan(t, x.what, s, e, x.want)
	}
	for _, x := range []struct {
		what string
		f    func(b api.ClaimBook) (int, api.Errno)
		b    api.ClaimBook
		want int
	}{
		{"Weather", claim.Weather, book(), 3}, {"read: Weather", claim.Weather, book(read()), 2},
		{"Blame", claim.Blame, book(), 1}, {"read: Blame", claim.Blame, book(read()), 2}, {"tight: Blame", claim.Blame, book(tight()), 1},
		{"Pays", claim.Pays, book(), 0}, {"read: Pays", claim.Pays, book(read()), 20}, {"tight: Pays", claim.Pays, book(tight()), 0},
		{"read: First", claim.First, book(read()), 1},
	} {
		n, e := x.f(x.b)
		checkNumber(t, x.what, n, e, x.want)
	}
	for _, x := range []struct {
		what string
		b    api.ClaimBook
		want api.Span
	}{{"Owes", book(), to(0, 30)}, {"read: Owes", book(read()), just(20)}, {"tight: Owes", book(tight()), to(20, 25)}} {
		s, e := claim.Owes(x.b)
		checkSpan(t, x.what, s, e, x.want)
	}
	is, e := claim.Fits(book(read()), clock(0, 32, 0))
	checkIs(t, "read: Fits 32", is, e, true)
	is, e = claim.Fits(book(read()), clock(0, 28, 0))
	checkIs(t, "read: Fits 28", is, e, false)
	is, e = claim.Right(book(torn()))
	checkIs(t, "torn: Right", is, e, false)
	l, e := claim.Wrong(book(torn()))
	checkList(t, "torn: Wrong", l, e, 0)
	if n, e := claim.Blame(book(torn())); n != 0 || e != api.ErrClaimFalse {
		t.Errorf("torn: Blame: %d, %d", n, e)
	}
}

// TestExampleOfOverview has the sixth example of DOC.md.
func TestExampleOfOverview(t *testing.T) {
	b := single(30, 30, 4, weathers(dry), rate(1))
	s, e := claim.Late(b, 0)
	checkSpan(t, "Late", s, e, just(4))
	n, e := claim.Pays(b)
	checkNumber(t, "Pays", n, e, 4)
}

// TestCheckLimits has books at the ends of each limit (P6.1).
func TestCheckLimits(t *testing.T) {
	small := func(due int) api.ClaimStage { return stage(due, just(1), just(0), just(0)) }
	large := func(due int) api.ClaimStage { return stage(due, just(90), just(30), just(20)) }
	var sets []api.ClaimBook
	for set := 1; set <= 7; set++ {
		sets = append(sets, book(weathers(set)))
	}
	for i, b := range append(sets,
		book(), book(read()), book(tight()), book(torn()), three(), full(),
		book(stages(small(1))), book(stages(small(300))), book(stages(small(1), small(2), small(3))), book(stages(small(298), small(299), small(300))),
		book(stages(large(1))), book(stages(large(1), large(2), large(300))),
		book(stages(stage(1, to(1, 3), to(0, 2), to(0, 1)))), book(stages(stage(1, to(1, 2), to(0, 1), to(0, 1)))), book(stages(stage(1, to(88, 90), to(28, 30), to(19, 20)))),
		book(costs(0, 0, 0)), book(costs(30, 30, 30)), book(costs(0, 15, 30)), book(rate(0)), book(rate(99)),
		book(clocks(clock(0, 0, 0))), book(clocks(clock(1, 600, 5))), book(clocks(slices.Repeat([]api.ClaimClock{clock(1, 600, 5)}, 4)...)),
	) {
		if e := claim.Check(b); e != api.OK {
			t.Errorf("the valid book %d: %d", i, e)
		}
	}
}

// wrongBooks are books beyond the ends of each limit.
func wrongBooks() []api.ClaimBook {
	drive, rough, stop := just(10), just(1), just(2)
	one, two := stage(30, drive, rough, stop), stage(60, drive, rough, stop)
	changes := []change{
		func(b *api.ClaimBook) { *b = api.ClaimBook{} },
		stages(), stages(stage(10, drive, rough, stop), stage(20, drive, rough, stop), one, two),
		stages(two, one), stages(one, one), stages(stage(29, drive, rough, stop), one, one),
		clocks(slices.Repeat([]api.ClaimClock{clock(1, 60, 5)}, 5)...),
	}
	far := []int{math.MinInt, math.MinInt + 1, math.MaxInt - 1, math.MaxInt}
	for _, n := range append(far, -1, 0, 301) {
		changes = append(changes, stages(stage(n, drive, rough, stop)), stages(one, stage(n, drive, rough, stop)))
	}
	for _, s := range outside(1, api.ClaimDrive, api.ClaimWide) {
		changes = append(changes, stages(stage(30, s, rough, stop)), stages(one, stage(60, s, rough, stop)))
	}
	for _, s := range outside(0, api.ClaimRough, api.ClaimWide) {
		changes = append(changes, stages(stage(30, drive, s, stop)), stages(one, stage(60, drive, s, stop)))
	}
	for _, s := range outside(0, api.ClaimStop, api.ClaimWait) {
		changes = append(changes, stages(stage(30, drive, rough, s)), stages(one, stage(60, drive, rough, s)))
	}
	for _, n := range append(far, -1, 0, 8, 9) {
		changes = append(changes, weathers(n))
	}
	for _, n := range append(far, -1, 31) {
		// The cost of a weather that there cannot have been counts, too.
		changes = append(changes, costs(n, 0, 0), costs(0, n, 0), costs(0, 0, n))
	}
	for _, n := range append(far, -1, 100) {
		changes = append(changes, rate(n))
	}
	for _, c := range wrongClocks(2) {
		changes = append(changes, clocks(c), clocks(clock(1, 66, 0), c))
	}
	var l []api.ClaimBook
	for _, c := range changes {
		l = append(l, book(c))
	}
	return l
}

// outside returns spans that are not valid if they must be from low to high, with ends no more than wide apart.
func outside(low, high, wide int) []api.Span {
	l := []api.Span{
		just(low - 1), just(high + 1), to(low-1, low), to(high, high+1), to(low, low+wide+1), to(high-wide-1, high), to(low, high),
		to(low+1, low), to(high, low), to(high+1, high),
		to(math.MinInt, math.MaxInt), to(math.MaxInt, math.MinInt), to(math.MinInt, low), to(low, math.MaxInt), to(low, math.MinInt), to(math.MaxInt, high),
	}
	for _, n := range []int{math.MinInt, math.MinInt + 1, math.MaxInt - 1, math.MaxInt} {
		l = append(l, just(n))
	}
	return l
}

// wrongClocks returns clocks that are not valid if there are count stages.
func wrongClocks(count int) []api.ClaimClock {
	far := []int{math.MinInt, math.MinInt + 1, math.MaxInt - 1, math.MaxInt, -1}
	var l []api.ClaimClock
	for _, n := range append(far, count) {
		l = append(l, clock(n, 30, 0))
	}
	for _, n := range append(far, 601) {
		l = append(l, clock(0, n, 0))
	}
	for _, n := range append(far, 6) {
		l = append(l, clock(0, 30, n))
	}
	return l
}

// TestErrClaim has wrong books: all functions return ErrClaim first, and nothing else (P6.1, P1).
func TestErrClaim(t *testing.T) {
	for i, b := range wrongBooks() {
		if e := claim.Check(b); e != api.ErrClaim {
			t.Errorf("the wrong book %d: Check: %d", i, e)
		}
		for _, n := range []int{0, -1, math.MinInt, math.MaxInt} {
			for name, a := range ask(b, n, clock(n, n, n)) {
				if !isNothingBut(a, api.ErrClaim) {
					t.Errorf("the wrong book %d: %s of %d: %+v", i, name, n, a)
				}
			}
		}
	}
}

// TestErrClaimAsk has wrong questions: they come before a book that cannot be true (P6.2, P6.3, P6.6).
func TestErrClaimAsk(t *testing.T) {
	for _, b := range []api.ClaimBook{book(), book(torn()), three(), full(), single(30, 30, 4), single(30, 30, 4, clocks(clock(0, 0, 0)))} {
		for _, n := range []int{-1, math.MinInt, math.MaxInt, len(b.Stages)} {
			all := ask(b, n, clock(n, 0, 0))
			for _, name := range []string{"Comes", "Late", "Rough", "Fits"} {
				if !isNothingBut(all[name], api.ErrClaimAsk) {
					t.Errorf("%s of %d: %+v", name, n, all[name])
				}
			}
		}
		for _, c := range wrongClocks(len(b.Stages)) {
			if is, e := claim.Fits(b, c); is || e != api.ErrClaimAsk {
				t.Errorf("Fits %+v: %v, %d", c, is, e)
			}
		}
	}
}

// TestErrClaimFalse has books that cannot be true (P6.1 to P6.8).
func TestErrClaimFalse(t *testing.T) {
	for i, b := range []api.ClaimBook{
		book(torn()),
		book(clocks(clock(0, 25, 0))), book(clocks(clock(0, 33, 0))), book(clocks(clock(1, 55, 0))), book(clocks(clock(1, 69, 0))), book(clocks(clock(1, 74, 5))),
		book(clocks(clock(0, 30, 0), clock(0, 31, 0))), book(clocks(clock(0, 0, 5))), book(clocks(clock(0, 600, 5))),
		single(30, 30, 4, clocks(clock(0, 35, 0))),
		// On the stage 0 it rained, on the stage 1 it was dry.
		three(weathers(dry|rain), clocks(clock(0, 20, 0), clock(1, 34, 0))),
		full(clocks(clock(0, 144, 0), clock(2, 490, 0))),
	} {
		all := ask(b, 0, clock(0, 30, 0))
		for _, name := range []string{"Comes", "Late", "Rough", "Weather", "Blame", "Owes", "Pays", "Fits", "First"} {
			if !isNothingBut(all[name], api.ErrClaimFalse) {
				t.Errorf("the torn book %d: %s: %+v", i, name, all[name])
			}
		}
		if a := all["Right"]; a.is || a.e != api.OK {
			t.Errorf("the torn book %d: Right: %+v", i, a)
		}
		if a := all["Wrong"]; len(a.list) == 0 || a.e != api.OK {
			t.Errorf("the torn book %d: Wrong: %+v", i, a)
		}
	}
}

// TestStages has when the coach comes, by how much it is late, and what the road costs, stage by stage (P6.2, P6.3).
func TestStages(t *testing.T) {
	known := func(stop int) change {
		return stages(stage(15, just(10), just(1), just(stop)), stage(40, just(20), just(0), just(9)))
	}
	for i, x := range []struct {
		b                  api.ClaimBook
		comes, late, rough []api.Span
	}{
		{book(), []api.Span{to(26, 32), to(56, 68)}, []api.Span{to(0, 2), to(0, 6)}, []api.Span{to(0, 2), to(2, 4)}},
		// The coach stops only where it goes on.
		{book(known(0), weathers(dry)), []api.Span{just(11), just(31)}, []api.Span{just(0), just(0)}, []api.Span{just(1), just(0)}},
		{book(known(7), weathers(dry)), []api.Span{just(11), just(38)}, []api.Span{just(0), just(0)}, []api.Span{just(1), just(0)}},
		// The weather costs as much on each stage.
		{book(known(7), weathers(snow)), []api.Span{just(17), just(50)}, []api.Span{just(2), just(10)}, []api.Span{just(1), just(0)}},
		{book(known(7), weathers(dry|snow)), []api.Span{to(11, 17), to(38, 50)}, []api.Span{to(0, 2), to(0, 10)}, []api.Span{just(1), just(0)}},
		{book(known(7), weathers(dry|snow), costs(9, 0, 2)), []api.Span{to(13, 20), to(42, 56)}, []api.Span{to(0, 5), to(2, 16)}, []api.Span{just(1), just(0)}},
		{three(), []api.Span{to(11, 16), to(24, 35), to(37, 54)}, []api.Span{to(0, 4), to(0, 9), to(0, 14)}, []api.Span{to(1, 2), just(3), to(0, 2)}},
		{three(weathers(rain)), []api.Span{to(20, 21), to(42, 45), to(64, 69)}, []api.Span{to(8, 9), to(16, 19), to(24, 29)}, []api.Span{to(1, 2), just(3), to(0, 2)}},
		// In time is not late; a minute behind it is.
		{single(34, 30, 4, weathers(dry)), []api.Span{just(34)}, []api.Span{just(0)}, []api.Span{just(4)}},
		{single(33, 30, 4, weathers(dry)), []api.Span{just(34)}, []api.Span{just(1)}, []api.Span{just(4)}},
		{single(300, 1, 0, weathers(dry)), []api.Span{just(1)}, []api.Span{just(0)}, []api.Span{just(0)}},
		// A clock tells of the stages before and behind it.
		{book(read()), []api.Span{to(30, 32), just(66)}, []api.Span{to(0, 2), just(4)}, []api.Span{to(0, 2), to(2, 4)}},
		{book(clocks(clock(1, 68, 0))), []api.Span{just(32), just(68)}, []api.Span{just(2), just(6)}, []api.Span{just(2), just(4)}},
		{book(clocks(clock(1, 67, 0))), []api.Span{to(31, 32), just(67)}, []api.Span{to(1, 2), just(5)}, []api.Span{to(1, 2), to(3, 4)}},
		{book(clocks(clock(1, 67, 1))), []api.Span{to(30, 32), to(66, 68)}, []api.Span{to(0, 2), to(4, 6)}, []api.Span{to(0, 2), to(2, 4)}},
		{book(clocks(clock(0, 26, 0))), []api.Span{just(26), to(56, 60)}, []api.Span{just(0), just(0)}, []api.Span{just(0), to(2, 4)}},
		{book(clocks(clock(0, 22, 5))), []api.Span{to(26, 27), to(56, 61)}, []api.Span{just(0), just(0)}, []api.Span{to(0, 1), to(2, 4)}},
		{book(clocks(clock(0, 29, 3), clock(1, 62, 1))), []api.Span{to(27, 31), to(61, 63)}, []api.Span{to(0, 1), to(0, 1)}, []api.Span{to(0, 2), to(2, 4)}},
		{three(clocks(clock(1, 31, 1))), []api.Span{just(15), just(32), to(49, 51)}, []api.Span{just(3), just(6), to(9, 11)}, []api.Span{just(1), just(3), to(0, 2)}},
		// On a dry road it comes to the stage 2 by 42, in snow not before 49: nothing lies between.
		{three(clocks(clock(2, 46, 4))), []api.Span{to(12, 16), to(27, 33), to(42, 50)}, []api.Span{to(0, 4), to(1, 7), to(2, 10)}, []api.Span{to(1, 2), just(3), to(0, 2)}},
		{full(), []api.Span{to(144, 150), to(311, 320), to(480, 490)}, []api.Span{just(0), to(12, 21), to(180, 190)}, []api.Span{to(28, 30), to(28, 30), to(28, 30)}},
		{full(clocks()), []api.Span{to(144, 150), to(307, 320), to(470, 490)}, []api.Span{just(0), to(8, 21), to(170, 190)}, []api.Span{to(28, 30), to(28, 30), to(28, 30)}},
	} {
		for n := range x.comes {
			s, e := claim.Comes(x.b, n)
			if s != x.comes[n] || e != api.OK {
				t.Errorf("Comes %d to %d: %v, %d; want %v", i, n, s, e, x.comes[n])
			}
			s, e = claim.Late(x.b, n)
			if s != x.late[n] || e != api.OK {
				t.Errorf("Late %d at %d: %v, %d; want %v", i, n, s, e, x.late[n])
			}
			s, e = claim.Rough(x.b, n)
			if s != x.rough[n] || e != api.OK {
				t.Errorf("Rough %d on %d: %v, %d; want %v", i, n, s, e, x.rough[n])
			}
		}
	}
}

// TestWeather has clocks that tell of the weather, and such that do not (P6.3).
func TestWeather(t *testing.T) {
	for i, x := range []struct {
		b    api.ClaimBook
		want int
	}{
		{book(), dry | rain}, {book(weathers(dry)), dry}, {book(weathers(snow)), snow}, {book(weathers(dry | snow)), dry | snow}, {book(weathers(7)), 7},
		{book(weathers(7), clocks(clock(0, 26, 0))), dry}, {book(weathers(7), clocks(clock(0, 28, 0))), dry | rain}, {book(weathers(7), clocks(clock(0, 31, 0))), rain}, {book(weathers(7), clocks(clock(0, 32, 0))), rain | snow}, {book(weathers(7), clocks(clock(0, 36, 0))), snow},
		{book(weathers(7), clocks(clock(0, 31, 1))), dry | rain | snow}, {book(weathers(dry|snow), clocks(clock(0, 31, 1))), dry | snow}, {book(weathers(dry|snow), clocks(clock(0, 34, 2))), snow},
		// It is the same on all stages.
		{book(weathers(7), clocks(clock(0, 32, 0), clock(1, 66, 1))), rain}, {book(weathers(7), clocks(clock(0, 32, 0), clock(1, 72, 5))), rain | snow}, {book(weathers(7), clocks(clock(0, 32, 0), clock(1, 75, 3))), snow},
		// Weathers that cost as much are not told apart.
		{single(30, 30, 4, weathers(7), costs(2, 5, 2), clocks(clock(0, 36, 0))), dry | snow}, {single(30, 30, 4, weathers(rain|snow), costs(2, 5, 2), clocks(clock(0, 36, 0))), snow},
		{full(), 7}, {full(clocks(clock(2, 490, 0))), snow}, {full(clocks(clock(0, 149, 0))), rain | snow},
	} {
		n, e := claim.Weather(x.b)
		if n != x.want || e != api.OK {
			t.Errorf("Weather %d: %d, %d; want %d", i, n, e, x.want)
		}
	}
}

// TestBlame has roads that surely, perhaps and never are to blame, what they owe, and what is paid (P6.4, P6.5).
func TestBlame(t *testing.T) {
	for i, x := range []struct {
		b     api.ClaimBook
		blame int
		owes  api.Span
		pays  int
	}{
		{book(), 1, to(0, 30), 0},
		{book(read()), 2, just(20), 20},
		{book(tight()), 1, to(20, 25), 0},
		{book(read(), due(60)), 1, to(20, 30), 0}, {book(read(), due(59)), 0, to(20, 30), 0}, {book(read(), due(65)), 2, just(5), 5}, {book(read(), due(66)), 0, just(0), 0},
		// All is known: the road costs 4.
		{single(34, 30, 4, weathers(dry)), 0, just(0), 0}, {single(33, 30, 4, weathers(dry)), 2, just(5), 5}, {single(30, 30, 4, weathers(dry)), 2, just(20), 20}, {single(29, 30, 4, weathers(dry)), 0, just(20), 0}, {single(1, 30, 4, weathers(dry)), 0, just(20), 0},
		{single(33, 30, 4, weathers(dry), rate(0)), 2, just(0), 0}, {single(33, 30, 4, weathers(dry), rate(99)), 2, just(99), 99}, {single(30, 30, 0, weathers(dry)), 0, just(0), 0}, {single(29, 30, 0, weathers(dry)), 0, just(0), 0},
		// In rain it comes 2 minutes later, in snow 6.
		{single(33, 30, 4, weathers(dry|rain)), 2, to(5, 15), 5}, {single(34, 30, 4, weathers(dry|rain)), 1, to(0, 10), 0}, {single(30, 30, 4, weathers(dry|snow)), 1, just(20), 0}, {single(33, 30, 4, weathers(dry|snow)), 1, to(5, 20), 0}, {single(29, 30, 4, weathers(dry|snow)), 0, just(20), 0}, {single(40, 30, 4, weathers(7)), 0, just(0), 0},
		// The road of all stages counts, and only the last stage is looked at.
		{book(stages(stage(1, just(10), just(3), just(0)), stage(30, just(16), just(2), just(0))), weathers(dry)), 2, just(5), 5},
		{book(stages(stage(1, just(10), just(3), just(0)), stage(29, just(16), just(2), just(0))), weathers(dry)), 2, just(10), 10},
		{book(stages(stage(1, just(10), just(3), just(0)), stage(26, just(16), just(2), just(0))), weathers(dry)), 2, just(25), 25},
		{book(stages(stage(1, just(10), just(3), just(0)), stage(25, just(16), just(2), just(0))), weathers(dry)), 0, just(25), 0},
		{book(stages(stage(1, just(10), just(3), just(0)), stage(31, just(16), just(2), just(0))), weathers(dry)), 0, just(0), 0},
		{three(), 1, to(0, 35), 0}, {three(weathers(dry)), 1, to(0, 10), 0}, {three(clocks(clock(2, 50, 0))), 0, to(20, 25), 0}, {three(clocks(clock(2, 42, 0))), 2, just(10), 10}, {three(clocks(clock(2, 42, 1))), 2, to(5, 10), 5}, {three(clocks(clock(2, 46, 4))), 1, to(10, 25), 0},
		{full(), 0, to(84*99, 90*99), 0},
	} {
		n, e := claim.Blame(x.b)
		if n != x.blame || e != api.OK {
			t.Errorf("Blame %d: %d, %d; want %d", i, n, e, x.blame)
		}
		s, e := claim.Owes(x.b)
		if s != x.owes || e != api.OK {
			t.Errorf("Owes %d: %v, %d; want %v", i, s, e, x.owes)
		}
		n, e = claim.Pays(x.b)
		if n != x.pays || e != api.OK {
			t.Errorf("Pays %d: %d, %d; want %d", i, n, e, x.pays)
		}
	}
}

// TestFits has all minutes that a further clock can show (P6.6).
func TestFits(t *testing.T) {
	from := func(low, high int) []int {
		var l []int
		for n := low; n <= high; n++ {
			l = append(l, n)
		}
		return l
	}
	two := single(30, 30, 4, weathers(dry|snow))
	four := slices.Repeat([]api.ClaimClock{clock(0, 26, 0)}, 4)
	for i, x := range []struct {
		b            api.ClaimBook
		stage, wrong int
		want         []int
	}{
		{book(), 0, 0, from(26, 32)}, {book(), 0, 5, from(21, 37)}, {book(), 1, 0, from(56, 68)},
		{book(read()), 0, 0, from(30, 32)}, {book(read()), 0, 2, from(28, 34)}, {book(read()), 1, 0, []int{66}}, {book(read()), 1, 1, from(65, 67)},
		{two, 0, 0, []int{34, 40}}, {two, 0, 2, append(from(32, 36), from(38, 42)...)}, {two, 0, 3, from(31, 43)},
		// There can be five clocks then.
		{book(clocks(four...)), 0, 0, []int{26}}, {book(clocks(four...)), 1, 0, from(56, 60)}, {full(), 2, 0, from(480, 490)}, {full(), 0, 0, from(144, 150)},
		{single(1, 1, 0, weathers(dry)), 0, 5, from(0, 6)},
	} {
		for read := range api.ClaimRead + 1 {
			is, e := claim.Fits(x.b, clock(x.stage, read, x.wrong))
			if is != slices.Contains(x.want, read) || e != api.OK {
				t.Errorf("Fits %d, %d: %v, %d", i, read, is, e)
			}
		}
	}
}

// TestWrong has clocks that must be wrong: the fewest, and the first of several lists (P6.7, P6.1).
func TestWrong(t *testing.T) {
	two := func(l ...api.ClaimClock) api.ClaimBook {
		return single(30, 30, 4, weathers(dry|snow), clocks(l...))
	}
	for i, x := range []struct {
		b    api.ClaimBook
		want []int
	}{
		{book(), nil}, {book(read()), nil}, {book(tight()), nil}, {three(), nil}, {full(), nil},
		{book(torn()), []int{0}}, {book(clocks(clock(0, 26, 0), clock(1, 66, 0))), []int{0}},
		{book(clocks(clock(1, 69, 0))), []int{0}}, {book(clocks(clock(1, 69, 1))), nil}, {book(clocks(clock(0, 0, 0))), []int{0}},
		{two(clock(0, 34, 0), clock(0, 34, 0)), nil}, {two(clock(0, 34, 0), clock(0, 40, 0)), []int{0}}, {two(clock(0, 37, 0), clock(0, 40, 0)), []int{0}}, {two(clock(0, 40, 0), clock(0, 37, 0)), []int{1}}, {two(clock(0, 37, 3), clock(0, 40, 0)), nil},
		// A single later clock is better than two earlier ones.
		{two(clock(0, 34, 0), clock(0, 34, 0), clock(0, 40, 0)), []int{2}},
		{two(clock(0, 34, 0), clock(0, 40, 0), clock(0, 40, 0), clock(0, 34, 0)), []int{0, 3}},
		{two(clock(0, 40, 0), clock(0, 34, 0), clock(0, 34, 0), clock(0, 40, 0)), []int{0, 3}},
		{two(clock(0, 34, 0), clock(0, 34, 0), clock(0, 37, 2), clock(0, 40, 0)), []int{2, 3}},
		{two(clock(0, 39, 0), clock(0, 34, 0), clock(0, 37, 2), clock(0, 40, 0)), []int{0, 1, 2}},
		{book(clocks(clock(0, 26, 0), clock(1, 66, 0), clock(1, 65, 1))), []int{0}}, {book(clocks(clock(1, 66, 0), clock(0, 26, 0), clock(1, 58, 0))), []int{0}}, {book(clocks(clock(1, 69, 0), clock(0, 20, 0), clock(0, 27, 0))), []int{0, 1}},
		{three(clocks(clock(0, 11, 0), clock(1, 35, 0), clock(2, 37, 0))), []int{1}}, {three(clocks(clock(0, 16, 0), clock(1, 35, 0), clock(2, 37, 0))), []int{2}},
		{full(clocks(slices.Repeat([]api.ClaimClock{clock(0, 600, 5)}, 4)...)), []int{0, 1, 2, 3}},
	} {
		l, e := claim.Wrong(x.b)
		if !slices.Equal(l, x.want) || e != api.OK {
			t.Errorf("Wrong %d: %v, %d; want %v", i, l, e, x.want)
		}
		is, e := claim.Right(x.b)
		if is != (len(x.want) == 0) || e != api.OK {
			t.Errorf("Right %d: %v, %d", i, is, e)
		}
	}
}

// TestFirst has coaches that surely are late, at the first stage or later, and such that may be in time (P6.8).
func TestFirst(t *testing.T) {
	dues := func(first, second, third int) change {
		return func(b *api.ClaimBook) {
			b.Stages[0].Due, b.Stages[1].Due, b.Stages[2].Due = first, second, third
		}
	}
	for i, x := range []struct {
		b    api.ClaimBook
		want int
	}{
		{book(), none}, {book(read()), 1}, {book(clocks(clock(1, 68, 0))), 0}, {book(clocks(clock(1, 62, 0))), none}, {book(clocks(clock(1, 63, 0))), 1}, {book(clocks(clock(0, 31, 0))), 0},
		{single(34, 30, 4, weathers(dry)), none}, {single(33, 30, 4, weathers(dry)), 0}, {single(34, 30, 4, weathers(dry|rain)), none}, {single(34, 30, 4, weathers(rain|snow)), 0},
		// It comes at 11, 24 and 37, at least.
		{three(dues(11, 24, 37)), none}, {three(dues(10, 24, 37)), 0}, {three(dues(11, 23, 37)), 1}, {three(dues(11, 24, 36)), 2}, {three(dues(11, 23, 36)), 1}, {three(dues(10, 24, 36)), 0}, {three(dues(1, 2, 300)), 0},
		// It may be late at both.
		{book(stages(stage(10, to(10, 11), just(0), to(0, 1)), stage(20, to(9, 10), just(0), just(0))), weathers(dry), clocks(clock(1, 21, 1))), none},
		{full(), 1}, {full(dues(143, 299, 300)), 0}, {full(dues(1, 2, 3)), 0},
	} {
		n, e := claim.First(x.b)
		if !isStage(n, e, x.want) {
			t.Errorf("First %d: %d, %d; want %d", i, n, e, x.want)
		}
	}
}

func cloneBook(b api.ClaimBook) api.ClaimBook {
	b.Stages, b.Clocks = slices.Clone(b.Stages), slices.Clone(b.Clocks)
	return b
}

// TestArguments asks with lists behind whose ends the caller keeps something (P6.9).
func TestArguments(t *testing.T) {
	for _, all := range []api.ClaimBook{book(torn()), full(), three(clocks(clock(1, 30, 1), clock(0, 15, 1), clock(2, 49, 5)))} {
		for count := range len(all.Clocks) + 1 {
			kept := cloneBook(all)
			b := kept
			b.Clocks = kept.Clocks[:count]
			claim.Check(b)
			ask(b, 0, clock(0, 30, 0))
			ask(b, 1, clock(1, 60, 5))
			if !reflect.DeepEqual(kept, all) {
				t.Errorf("with %d clocks: %+v", count, kept)
			}
		}
	}
}

// TestResults writes into results, and behind their ends, and into arguments afterwards: neither changes another result (P6.9, P2).
func TestResults(t *testing.T) {
	b := book(clocks(clock(0, 9, 0), clock(0, 9, 0), clock(0, 30, 0)))
	one, _ := claim.Wrong(b)
	two, _ := claim.Wrong(b)
	checkList(t, "Wrong", two, api.OK, 0, 1)
	clear(one[:cap(one)])
	_ = append(one[:1], 7)
	b.Clocks[0].Read, b.Clocks[1].Read = 30, 600
	checkList(t, "Wrong, once more", two, api.OK, 0, 1)
	two, e := claim.Wrong(b)
	checkList(t, "Wrong of another book", two, e, 1)
	before := ask(book(), 1, clock(1, 60, 0))
	ask(book(torn()), 1, clock(1, 60, 0))
	ask(full(), 0, clock(1, 60, 0))
	if again := ask(book(), 1, clock(1, 60, 0)); !reflect.DeepEqual(before, again) {
		t.Errorf("once more: %+v; first %+v", again, before)
	}
}

// TestNilAndEmpty has nil lists and empty ones (R3).
func TestNilAndEmpty(t *testing.T) {
	if a, b := ask(book(clocks()), 0, clock(0, 30, 0)), ask(book(clocks([]api.ClaimClock{}...)), 0, clock(0, 30, 0)); !reflect.DeepEqual(a, b) {
		t.Errorf("nil %+v; empty %+v", a, b)
	}
	empty := book()
	empty.Clocks = []api.ClaimClock{}
	if a, b := ask(book(), 0, clock(0, 30, 0)), ask(empty, 0, clock(0, 30, 0)); !reflect.DeepEqual(a, b) {
		t.Errorf("nil %+v; empty %+v", a, b)
	}
	empty.Stages = []api.ClaimStage{}
	if e := claim.Check(empty); e != api.ErrClaim {
		t.Errorf("no stages: %d", e)
	}
}
