package rut_test

import (
	"math/rand"
	"slices"
	"testing"

	"macadam/api"
	"macadam/rut"
)

// telling is a truth as the chapter defines it, all of it written out.
type telling struct {
	starts []int
	wears  [3]int
	frost  []bool
}

// all returns all lists that have one of the numbers of each span.
func all(spans []api.Span) [][]int {
	lists := [][]int{nil}
	for _, s := range spans {
		var longer [][]int
		for _, l := range lists {
			for n := s.Low; n <= s.High; n++ {
				longer = append(longer, append(slices.Clone(l), n))
			}
		}
		lists = longer
	}
	return lists
}

// tellings returns all truths of a book without its staffs.
func tellings(b api.RutBook) []telling {
	nights := make([]api.Span, len(b.Days))
	for i, d := range b.Days {
		nights[i] = []api.Span{just(0), to(0, 1), just(1)}[d.Frost]
	}
	var l []telling
	for _, starts := range all(b.Miles) {
		for _, wears := range all(b.Wears[:]) {
			for _, night := range all(nights) {
				frost := make([]bool, len(night))
				for i, n := range night {
					frost[i] = n == 1
				}
				l = append(l, telling{starts, [3]int(wears), frost})
			}
		}
	}
	return l
}

// depth goes through all days until this one, as the chapter says.
func (t telling) depth(b api.RutBook, mile, day int) int {
	deep := t.starts[mile]
	for d := 0; d <= day; d++ {
		for _, m := range b.Mends {
			if m == mend(mile, d) {
				deep = 0
			}
		}
		deep += b.Days[d].Narrow*t.wears[0] + b.Days[d].Broad*t.wears[1]
		if t.frost[d] {
			deep += t.wears[2]
		}
	}
	return deep
}

func (t telling) isRight(b api.RutBook, s api.RutStaff) bool {
	off := s.Read - t.depth(b, s.Mile, s.Day)
	return -s.Error <= off && off <= s.Error
}

// truths returns those truths in which all of these staffs are right.
func truths(b api.RutBook, l []telling, staffs []api.RutStaff) []telling {
	var right []telling
	for _, t := range l {
		if !slices.ContainsFunc(staffs, func(s api.RutStaff) bool { return !t.isRight(b, s) }) {
			right = append(right, t)
		}
	}
	return right
}

// spanOf returns the least and the greatest number that f has of truths.
func spanOf(l []telling, f func(telling) int) api.Span {
	s := just(f(l[0]))
	for _, t := range l {
		s = to(min(s.Low, f(t)), max(s.High, f(t)))
	}
	return s
}

func randomSpan(r *rand.Rand, low, most, wide int) api.Span {
	n := low + r.Intn(most+1-low)
	return to(n, min(most, n+r.Intn(wide+1)))
}

// randomBook returns a small book whose staffs mostly are right of one of its truths.
func randomBook(r *rand.Rand) api.RutBook {
	b := api.RutBook{Act: r.Intn(60)}
	for range 1 + r.Intn(3) {
		b.Miles = append(b.Miles, randomSpan(r, 0, []int{12, 60}[r.Intn(2)], r.Intn(4)))
	}
	for kind := range b.Wears {
		b.Wears[kind] = randomSpan(r, 0, 4, 1)
	}
	for range 1 + r.Intn(4) {
		b.Days = append(b.Days, day(r.Intn(1+r.Intn(10)), r.Intn(1+r.Intn(10)), r.Intn(3)))
	}
	for range r.Intn(1 + r.Intn(7)) {
		b.Mends = append(b.Mends, mend(r.Intn(len(b.Miles)), r.Intn(len(b.Days))))
	}
	l := tellings(b)
	for range r.Intn(6) {
		b.Staffs = append(b.Staffs, randomStaff(r, b, l))
	}
	return b
}

func randomStaff(r *rand.Rand, b api.RutBook, l []telling) api.RutStaff {
	s := staff(r.Intn(len(b.Miles)), r.Intn(len(b.Days)), 0, r.Intn(1+r.Intn(6)))
	off := r.Intn(2*s.Error+1) - s.Error
	if r.Intn(5) == 0 {
		off *= 2
	}
	s.Read = max(0, l[r.Intn(len(l))].depth(b, s.Mile, s.Day)+off)
	return s
}

func eachRandomBook(count int, f func(r *rand.Rand, b api.RutBook)) {
	r := rand.New(rand.NewSource(1))
	for range count {
		f(r, randomBook(r))
	}
}

// TestAgainstAllTruths holds all answers against those of all truths, one by one (P1.1 to P1.7, P1.9).
func TestAgainstAllTruths(t *testing.T) {
	eachRandomBook(3000, func(r *rand.Rand, b api.RutBook) {
		l := tellings(b)
		right := truths(b, l, b.Staffs)
		is, e := rut.Right(b)
		if is != (len(right) > 0) || e != api.OK {
			t.Fatalf("%+v: Right: %v, %d", b, is, e)
		}
		holdWrong(t, b, l)
		if len(right) == 0 {
			if _, e := rut.Deep(b, 0, 0); e != api.ErrRutFalse {
				t.Fatalf("%+v: Deep: %d", b, e)
			}
			return
		}
		holdKnown(t, b, right)
		holdWorse(t, b, right)
		s := randomStaff(r, b, l)
		is, e = rut.Fits(b, s)
		if is != (len(truths(b, right, []api.RutStaff{s})) > 0) || e != api.OK {
			t.Fatalf("%+v: Fits %v: %v, %d", b, s, is, e)
		}
	})
}

func holdKnown(t *testing.T, b api.RutBook, right []telling) {
	for day := range b.Days {
		for mile := range b.Miles {
			want := spanOf(right, func(t telling) int { return t.depth(b, mile, day) })
			if s, e := rut.Deep(b, mile, day); s != want || e != api.OK {
				t.Fatalf("%+v: Deep of %d on %d: %v, %d; want %v", b, mile, day, s, e, want)
			}
		}
		nights := spanOf(right, func(t telling) int {
			if t.frost[day] {
				return 1
			}
			return 0
		})
		if n, e := rut.Frost(b, day); n != nights.Low+nights.High || e != api.OK {
			t.Fatalf("%+v: Frost %d: %d, %d; want %v", b, day, n, e, nights)
		}
	}
	for kind := range 3 {
		want := spanOf(right, func(t telling) int { return t.wears[kind] })
		if s, e := rut.Wears(b, kind); s != want || e != api.OK {
			t.Fatalf("%+v: Wears %d: %v, %d; want %v", b, kind, s, e, want)
		}
	}
}

func holdWorse(t *testing.T, b api.RutBook, right []telling) {
	worse, sure := make([][]int, len(b.Miles)), make([][]int, len(b.Miles))
	var first []int
	for day := range b.Days {
		var bad []int
		for mile := range b.Miles {
			s := spanOf(right, func(t telling) int { return t.depth(b, mile, day) })
			if s.High > b.Act {
				bad, worse[mile] = append(bad, mile), append(worse[mile], day)
			}
			if s.Low > b.Act {
				sure[mile] = append(sure[mile], day)
			}
		}
		if l, e := rut.Bad(b, day); !slices.Equal(l, bad) || e != api.OK {
			t.Fatalf("%+v: Bad %d: %v, %d; want %v", b, day, l, e, bad)
		}
		if first == nil && bad != nil {
			first = []int{bad[0], day}
		}
	}
	for mile := range b.Miles {
		n, e := rut.Worse(b, mile)
		holdFirst(t, b, "Worse", n, e, worse[mile])
		n, e = rut.Surely(b, mile)
		holdFirst(t, b, "Surely", n, e, sure[mile])
	}
	mile, day, e := rut.First(b)
	if first == nil && (mile != 0 || day != 0 || e != api.ErrNone) || first != nil && (mile != first[0] || day != first[1] || e != api.OK) {
		t.Fatalf("%+v: First: %d, %d, %d; want %v", b, mile, day, e, first)
	}
}

func holdFirst(t *testing.T, b api.RutBook, what string, n int, e api.Errno, want []int) {
	t.Helper()
	if want == nil && (n != 0 || e != api.ErrNone) || want != nil && (n != want[0] || e != api.OK) {
		t.Fatalf("%+v: %s: %d, %d; want %v", b, what, n, e, want)
	}
}

// holdWrong goes through all sets of staffs, and takes the shortest list, the first one of several (P1.7, P1.14).
func holdWrong(t *testing.T, b api.RutBook, l []telling) {
	var best []int
	found := false
	for set := range 1 << len(b.Staffs) {
		var out []int
		var kept []api.RutStaff
		for i, s := range b.Staffs {
			if set>>i&1 == 1 {
				out = append(out, i)
			} else {
				kept = append(kept, s)
			}
		}
		if len(truths(b, l, kept)) == 0 {
			continue
		}
		if !found || len(out) < len(best) || len(out) == len(best) && slices.Compare(out, best) < 0 {
			best, found = out, true
		}
	}
	if got, e := rut.Wrong(b); !slices.Equal(got, best) || e != api.OK {
		t.Fatalf("%+v: Wrong: %v, %d; want %v", b, got, e, best)
	}
}

// TestEndsCanBeMeasured asks whether both ends can be read without an error, and what is beside them cannot (P1.10).
func TestEndsCanBeMeasured(t *testing.T) {
	eachRandomBook(500, func(r *rand.Rand, b api.RutBook) {
		if is, _ := rut.Right(b); !is {
			return
		}
		for mile := range b.Miles {
			for day := range b.Days {
				s, _ := rut.Deep(b, mile, day)
				for _, x := range []struct {
					read int
					want bool
				}{{s.Low, true}, {s.High, true}, {s.Low - 1, false}, {s.High + 1, false}} {
					if x.read < 0 {
						continue
					}
					if is, e := rut.Fits(b, staff(mile, day, x.read, 0)); is != x.want || e != api.OK {
						t.Fatalf("%+v: Fits %d on %d: %d: %v, %d", b, mile, day, x.read, is, e)
					}
				}
			}
		}
	})
}

func within(s, outer api.Span) bool { return outer.Low <= s.Low && s.High <= outer.High }

// TestOneMeasurementMore adds a staff: nothing is known less well (P1.11).
func TestOneMeasurementMore(t *testing.T) {
	eachRandomBook(500, func(r *rand.Rand, b api.RutBook) {
		if len(b.Staffs) == api.RutStaffs {
			b.Staffs = b.Staffs[:api.RutStaffs-1]
		}
		more := cloneBook(b)
		more.Staffs = append(more.Staffs, randomStaff(r, b, tellings(b)))
		if is, _ := rut.Right(more); !is {
			return
		}
		for day := range b.Days {
			for mile := range b.Miles {
				s, e := rut.Deep(b, mile, day)
				m, f := rut.Deep(more, mile, day)
				if !within(m, s) || e != api.OK || f != api.OK {
					t.Fatalf("%+v: Deep of %d on %d: %v, with one more %v", more, mile, day, s, m)
				}
			}
			n, _ := rut.Frost(b, day)
			m, _ := rut.Frost(more, day)
			if n != api.RutPerhaps && n != m {
				t.Fatalf("%+v: Frost %d: %d, with one more %d", more, day, n, m)
			}
		}
		for kind := range 3 {
			s, _ := rut.Wears(b, kind)
			if m, _ := rut.Wears(more, kind); !within(m, s) {
				t.Fatalf("%+v: Wears %d: %v, with one more %v", more, kind, s, m)
			}
		}
		for mile := range b.Miles {
			n, e := rut.Worse(b, mile)
			m, f := rut.Worse(more, mile)
			if f == api.OK && (e != api.OK || m < n) {
				t.Fatalf("%+v: Worse %d: %d, with one more %d", more, mile, n, m)
			}
		}
	})
}

// TestMended holds a mile that is mended against one without ruts, from that day on; and adds a wagon (P1.12).
func TestMended(t *testing.T) {
	eachRandomBook(300, func(r *rand.Rand, b api.RutBook) {
		b.Staffs = nil
		b.Mends = []api.RutMend{mend(0, r.Intn(len(b.Days)))}
		from := b.Mends[0].Day
		since := cloneBook(b)
		since.Miles[0], since.Days, since.Mends = just(0), b.Days[from:], nil
		busy := cloneBook(b)
		busy.Days[0].Narrow = min(api.RutPasses, busy.Days[0].Narrow+1)
		busy.Days[len(busy.Days)-1].Broad = min(api.RutPasses, busy.Days[len(busy.Days)-1].Broad+1)
		for day := range b.Days {
			s, e := rut.Deep(b, 0, day)
			if day >= from {
				if m, f := rut.Deep(since, 0, day-from); s != m || e != api.OK || f != api.OK {
					t.Fatalf("%+v: Deep on %d: %v; what passed since: %v", b, day, s, m)
				}
			}
			if m, _ := rut.Deep(busy, 0, day); m.Low < s.Low || m.High < s.High {
				t.Fatalf("%+v: Deep on %d: %v; with a wagon more: %v", b, day, s, m)
			}
		}
	})
}

// TestAsMuchDeeper measures one mile, and asks of another: on all days both are as much deeper (P1.13).
func TestAsMuchDeeper(t *testing.T) {
	eachRandomBook(300, func(r *rand.Rand, b api.RutBook) {
		b.Miles, b.Mends, b.Staffs = []api.Span{just(r.Intn(60)), just(r.Intn(60))}, nil, nil
		on := r.Intn(len(b.Days))
		s, _ := rut.Deep(b, 0, on)
		b.Staffs = []api.RutStaff{staff(0, on, s.High, 0)}
		for day := range b.Days {
			one, e := rut.Deep(b, 0, day)
			two, f := rut.Deep(b, 1, day)
			more := b.Miles[1].Low - b.Miles[0].Low
			if two != to(one.Low+more, one.High+more) || e != api.OK || f != api.OK {
				t.Fatalf("%+v: Deep on %d: %v, %v", b, day, one, two)
			}
		}
	})
}

// TestWithoutThose leaves out the staffs that must be wrong: the book can be true then (P1.14).
func TestWithoutThose(t *testing.T) {
	eachRandomBook(500, func(r *rand.Rand, b api.RutBook) {
		wrong, e := rut.Wrong(b)
		if e != api.OK {
			t.Fatalf("%+v: Wrong: %d", b, e)
		}
		for _, skip := range append(slices.Clone(wrong), -1) {
			less := b
			less.Staffs = nil
			for i, s := range b.Staffs {
				if !slices.Contains(wrong, i) || i == skip {
					less.Staffs = append(less.Staffs, s)
				}
			}
			if is, e := rut.Right(less); is != (skip == -1) || e != api.OK {
				t.Fatalf("%+v: without %v but %d: %v, %d", b, wrong, skip, is, e)
			}
		}
	})
}

func BenchmarkDeep(bench *testing.B) {
	b := full(mends(mend(3, 0), mend(2, 1), mend(1, 2)), staffs())
	for bench.Loop() {
		rut.Deep(b, 0, 5)
	}
}
