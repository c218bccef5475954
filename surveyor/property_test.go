package surveyor_test

import (
	"math/rand"
	"slices"
	"strconv"
	"strings"
	"testing"

	"macadam/api"
	"macadam/claim"
	"macadam/rut"
	"macadam/stone"
	"macadam/surveyor"
	"macadam/weigh"
)

const rounds = 60

// road is a setup, and what is truly so.
type road struct {
	setup  api.SurveyorSetup
	starts []int
	wears  [3]int
	frost  []int
	heaps  []int
	off    int
	tares  []int
	stages [][3]int // Drive, Rough and Stop
	sky    int
}

// around returns a span no wider than wide, from low to high, and a number in it.
func around(r *rand.Rand, low, high, wide int) (api.Span, int) {
	from := low + r.Intn(high-low+1)
	s := to(from, min(high, from+r.Intn(wide+1)))
	return s, s.Low + r.Intn(s.High-s.Low+1)
}

// someRoad returns a road of which something is not known.
func someRoad(r *rand.Rand) road {
	var x road
	s := &x.setup
	for range 1 + r.Intn(3) {
		mile, start := around(r, 0, 20, 3)
		s.Miles, x.starts = append(s.Miles, mile), append(x.starts, start)
	}
	for kind := range s.Wears {
		s.Wears[kind], x.wears[kind] = around(r, 0, 4, 1)
	}
	for range 1 + r.Intn(4) {
		frost := r.Intn(2)
		day := api.RutDay{Narrow: r.Intn(4), Broad: r.Intn(4), Frost: []int{api.RutNone, api.RutSurely}[frost]}
		if r.Intn(2) == 0 {
			day.Frost = api.RutPerhaps
		}
		s.Days, x.frost = append(s.Days, day), append(x.frost, frost)
	}
	for range r.Intn(3) {
		s.Mends = append(s.Mends, api.RutMend{Mile: r.Intn(len(s.Miles)), Day: r.Intn(len(s.Days))})
	}
	s.Act = r.Intn(40)
	for range 1 + r.Intn(3) {
		heap, first := around(r, 0, 12, 4)
		s.Heaps, x.heaps = append(s.Heaps, heap), append(x.heaps, first)
	}
	for carter := range s.Lies {
		s.Lies[carter] = r.Intn(3)
	}
	s.Names = []string{"ann", "ben", "c1", "annie"}[:1+r.Intn(4)]
	x.weights(r)
	x.coach(r)
	return x
}

func (x *road) weights(r *rand.Rand) {
	s := &x.setup
	s.Off, x.off = around(r, -9, 9, 4)
	for range 1 + r.Intn(3) {
		tare, truly := around(r, 9, 40, 3)
		s.Wagons, x.tares = append(s.Wagons, api.WeighWagon{Tare: tare, Wheel: r.Intn(3)}), append(x.tares, truly)
	}
	for wheel := range s.Tolls {
		s.Tolls[wheel] = api.WeighToll{Free: r.Intn(60), Base: r.Intn(9), Rate: r.Intn(9)}
	}
}

func (x *road) coach(r *rand.Rand) {
	s := &x.setup
	x.sky = r.Intn(3)
	s.Weathers = 1<<x.sky | r.Intn(8)
	s.Costs, s.Rate = [3]int{r.Intn(3), r.Intn(5), r.Intn(9)}, r.Intn(100)
	due := 0
	for range 1 + r.Intn(3) {
		var stage api.ClaimStage
		var truly [3]int
		due += 10 + r.Intn(30)
		stage.Due = due
		stage.Drive, truly[0] = around(r, 10, 30, 2)
		stage.Rough, truly[1] = around(r, 0, 6, 2)
		stage.Stop, truly[2] = around(r, 0, 5, 1)
		s.Stages, x.stages = append(s.Stages, stage), append(x.stages, truly)
	}
}

// deep returns how deep the ruts of a mile truly are.
func (x road) deep(mile, day int) int {
	deep := x.starts[mile]
	for d := range day + 1 {
		if slices.Contains(x.setup.Mends, api.RutMend{Mile: mile, Day: d}) {
			deep = 0
		}
		deep += x.setup.Days[d].Narrow*x.wears[0] + x.setup.Days[d].Broad*x.wears[1] + x.frost[d]*x.wears[2]
	}
	return deep
}

// comes returns in which minute the coach truly comes to the end of a stage.
func (x road) comes(stage int) int {
	minute := 0
	for n := range stage + 1 {
		minute += x.stages[n][0] + x.stages[n][1] + x.setup.Costs[x.sky]
		if n < stage {
			minute += x.stages[n][2]
		}
	}
	return minute
}

func text(word string, numbers ...any) string {
	l := []string{word}
	for _, n := range numbers {
		switch v := n.(type) {
		case int:
			l = append(l, strconv.Itoa(v))
		case string:
			l = append(l, v)
		}
	}
	return strings.Join(l, " ")
}

// happened is what was truly so of what was told: how much each load had, what each pass weighed, and what is in the heaps now.
type happened struct {
	yards, weights []int
	carters        []string
	laid           int
	heaps          []int
}

// rightly returns a line that tells something of the road rightly, and does not come to be if there is no number that could be read. behind does to what happened as the line tells.
func (x road) rightly(r *rand.Rand, h *happened) (line string, behind func()) {
	miss := r.Intn(4)
	reads := func(truly int) int { return max(0, truly-miss+r.Intn(2*miss+1)) }
	switch r.Intn(4) {
	case 0:
		mile, day := r.Intn(len(x.setup.Miles)), r.Intn(len(x.setup.Days))
		return text("staff", mile, day, reads(x.deep(mile, day)), miss), func() {}
	case 1:
		return x.load(r, h)
	case 2:
		wagon, load := r.Intn(len(x.setup.Wagons)), r.Intn(20)
		low := max(0, load-r.Intn(3))
		weight := x.tares[wagon] + load
		line = text("pass", wagon, low, max(load, low+r.Intn(4)), reads(weight+x.off), miss, r.Intn(99))
		return line, func() { h.weights = append(h.weights, weight) }
	default:
		stage := r.Intn(len(x.setup.Stages))
		return text("clock", stage, reads(x.comes(stage)), miss), func() {}
	}
}

// load returns a line that tells of a load, as much as the heap from which it comes has.
func (x road) load(r *rand.Rand, h *happened) (string, func()) {
	from, to := r.Intn(len(h.heaps)+1)-1, r.Intn(len(h.heaps)+1)-1
	for from == to {
		to = r.Intn(len(h.heaps)+1) - 1
	}
	carter := r.Intn(len(x.setup.Names))
	yards := r.Intn(7)
	if from >= 0 {
		yards = min(yards, h.heaps[from])
	}
	name, told := x.setup.Names[carter], min(6, yards+r.Intn(x.setup.Lies[carter]+1))
	line := text("cart", from, to, name, told)
	switch {
	case from < 0:
		line = text("dig", to, name, told)
	case to < 0:
		line = text("lay", from, name, told)
	}
	return line, func() {
		h.yards, h.carters = append(h.yards, yards), append(h.carters, name)
		if from >= 0 {
			h.heaps[from] -= yards
		}
		if to >= 0 {
			h.heaps[to] += yards
		} else {
			h.laid += yards
		}
	}
}

// anyLine returns a line that tells something that may be true, or not, or is not valid.
func anyLine(r *rand.Rand, s api.SurveyorSetup) string {
	n := func(count int) int { return r.Intn(count + 1 + r.Intn(2)) }
	name := append(slices.Clone(s.Names), "tom")[r.Intn(len(s.Names)+1)]
	switch r.Intn(6) {
	case 0:
		return text("staff", n(len(s.Miles)), n(len(s.Days)), r.Intn(40), r.Intn(7))
	case 1:
		return text("dig", n(len(s.Heaps)), name, r.Intn(8))
	case 2:
		return text("cart", n(len(s.Heaps)), n(len(s.Heaps)), name, r.Intn(8))
	case 3:
		return text("lay", n(len(s.Heaps)), name, r.Intn(8))
	case 4:
		low := r.Intn(20)
		return text("pass", n(len(s.Wagons)), low, low+r.Intn(5), r.Intn(70), r.Intn(7), r.Intn(99))
	default:
		return text("clock", n(len(s.Stages)), r.Intn(90), r.Intn(7))
	}
}

// questions returns all questions of a setup, and of somewhat more than it has.
func questions(s api.SurveyorSetup) []string {
	l := []string{"first", "laid", "liars", "off", "over", "again", "blame", "owes", "paid", "weather"}
	for n := range 8 {
		for _, word := range []string{"wears", "frost", "worse", "surely", "bad", "yards", "tare", "weighs", "pays", "back", "comes", "late"} {
			l = append(l, text(word, n))
		}
		for other := range 8 {
			l = append(l, text("deep", n, other), text("heap", n, other))
		}
	}
	for _, name := range append(slices.Clone(s.Names), "tom") {
		l = append(l, text("wages", name, 0), text("wages", name, 7), text("wages", name, 99), text("wages", name, 100))
	}
	return l
}

// kinds has, for each kind of thing that is told, the words that tell it, and those that ask for what follows from it.
func kinds() [4][2]string {
	return [4][2]string{
		{"staff", "deep wears frost worse surely bad first"},
		{"dig cart lay", "yards heap laid wages liars"},
		{"pass", "off tare weighs pays back over again"},
		{"clock", "comes late blame owes paid weather"},
	}
}

func kindOf(line string) int {
	word := strings.Fields(line)[0]
	for kind, words := range kinds() {
		if slices.Contains(strings.Fields(words[0]+" "+words[1]), word) {
			return kind
		}
	}
	return -1
}

// books is the books of a surveyor, put together from the setup and what the surveyor returns.
type books struct {
	rut   api.RutBook
	weigh api.WeighBook
	stone api.StoneBook
	claim api.ClaimBook
}

func booksOf(s api.SurveyorSetup, y *surveyor.Surveyor) books {
	b := books{
		rut:   api.RutBook{Miles: s.Miles, Wears: s.Wears, Days: s.Days, Mends: s.Mends, Act: s.Act, Staffs: y.Staffs()},
		weigh: api.WeighBook{Off: s.Off, Wagons: s.Wagons, Tolls: s.Tolls, Passes: y.Passes()},
		stone: api.StoneBook{Lies: s.Lies, Moves: y.Loads()},
		claim: api.ClaimBook{Stages: s.Stages, Weathers: s.Weathers, Costs: s.Costs, Rate: s.Rate, Clocks: y.Clocks()},
	}
	for _, first := range s.Heaps {
		b.stone.Heaps = append(b.stone.Heaps, api.StoneHeap{First: first, Last: to(0, 99)})
	}
	return b
}

func (b books) canBeTrue() bool {
	ruts, _ := rut.Right(b.rut)
	weights, _ := weigh.Right(b.weigh)
	stones, _ := stone.Right(b.stone)
	coach, _ := claim.Right(b.claim)
	return ruts && weights && stones && coach
}

// written has the answer to a question, as the layers answer.
func written(e api.Errno, numbers ...int) (string, api.Errno) {
	switch e {
	case api.OK:
	case api.ErrRutAsk, api.ErrStoneAsk, api.ErrWeighAsk, api.ErrClaimAsk:
		return "", api.ErrRange
	default:
		return "", e
	}
	var l []string
	for _, n := range numbers {
		l = append(l, strconv.Itoa(n))
	}
	if l == nil {
		return "-", api.OK
	}
	return strings.Join(l, " "), api.OK
}

func writtenSpan(s api.Span, e api.Errno) (string, api.Errno) { return written(e, s.Low, s.High) }

func writtenOne(n int, e api.Errno) (string, api.Errno) { return written(e, n) }

func writtenList(l []int, e api.Errno) (string, api.Errno) { return written(e, l...) }

// asked answers a question by the layers themselves.
func (b books) asked(s api.SurveyorSetup, line string) (string, api.Errno) {
	l := strings.Fields(line)
	var n []int
	for _, token := range l[1:] {
		number, err := strconv.Atoi(token)
		if err != nil {
			number = slices.Index(s.Names, token)
			if number < 0 {
				return "", api.ErrSurveyorUnknown
			}
		}
		n = append(n, number)
	}
	switch kindOf(line) {
	case 0:
		return b.askedOfRuts(l[0], n)
	case 1:
		return b.askedOfStone(l[0], n)
	case 2:
		return b.askedOfWeights(l[0], n)
	default:
		return b.askedOfCoach(l[0], n)
	}
}

func (b books) askedOfRuts(word string, n []int) (string, api.Errno) {
	switch word {
	case "deep":
		return writtenSpan(rut.Deep(b.rut, n[0], n[1]))
	case "wears":
		return writtenSpan(rut.Wears(b.rut, n[0]))
	case "frost":
		return writtenOne(rut.Frost(b.rut, n[0]))
	case "worse":
		return writtenOne(rut.Worse(b.rut, n[0]))
	case "surely":
		return writtenOne(rut.Surely(b.rut, n[0]))
	case "bad":
		return writtenList(rut.Bad(b.rut, n[0]))
	default:
		mile, day, e := rut.First(b.rut)
		return written(e, mile, day)
	}
}

func (b books) askedOfStone(word string, n []int) (string, api.Errno) {
	switch word {
	case "yards":
		return writtenSpan(stone.Yards(b.stone, n[0]))
	case "heap":
		return writtenSpan(stone.Heap(b.stone, n[0], n[1]))
	case "laid":
		return writtenSpan(stone.Laid(b.stone))
	case "wages":
		return writtenSpan(stone.Owed(b.stone, n[0], n[1]))
	default:
		return writtenList(stone.Liars(b.stone))
	}
}

func (b books) askedOfWeights(word string, n []int) (string, api.Errno) {
	switch word {
	case "off":
		return writtenSpan(weigh.Off(b.weigh))
	case "tare":
		return writtenSpan(weigh.Tare(b.weigh, n[0]))
	case "weighs":
		return writtenSpan(weigh.Weighs(b.weigh, n[0]))
	case "pays":
		return writtenSpan(weigh.Pays(b.weigh, n[0]))
	case "back":
		return writtenSpan(weigh.Back(b.weigh, n[0]))
	case "over":
		return writtenList(weigh.Over(b.weigh))
	default:
		return writtenOne(weigh.Again(b.weigh))
	}
}

func (b books) askedOfCoach(word string, n []int) (string, api.Errno) {
	switch word {
	case "comes":
		return writtenSpan(claim.Comes(b.claim, n[0]))
	case "late":
		return writtenSpan(claim.Late(b.claim, n[0]))
	case "blame":
		return writtenOne(claim.Blame(b.claim))
	case "owes":
		return writtenSpan(claim.Owes(b.claim))
	case "paid":
		return writtenOne(claim.Pays(b.claim))
	default:
		set, e := claim.Weather(b.claim)
		var l []int
		for weather := range 3 {
			if set&(1<<weather) != 0 {
				l = append(l, weather)
			}
		}
		return written(e, l...)
	}
}

// askedBehind returns the question whose answer a line that tells something has.
func (b books) askedBehind(line string) string {
	l := strings.Fields(line)
	switch l[0] {
	case "staff":
		return text("deep", l[1], l[2])
	case "pass":
		return text("weighs", len(b.weigh.Passes)-1)
	case "clock":
		return text("comes", l[1])
	default:
		return text("yards", len(b.stone.Moves)-1)
	}
}

// replies has what is answered to all questions.
func replies(y *surveyor.Surveyor, s api.SurveyorSetup) map[string]said {
	all := map[string]said{}
	for _, line := range questions(s) {
		a, e := y.Do(line)
		all[line] = said{line, a, e}
	}
	return all
}

// TestAnswersOfTheLayers tells surveyors anything, and compares all answers with those of the layers; all books can be true (P11.2, P11.8).
func TestAnswersOfTheLayers(t *testing.T) {
	r := rand.New(rand.NewSource(1))
	for range rounds {
		x := someRoad(r)
		y := made(t, x.setup)
		for range 30 {
			line := anyLine(r, x.setup)
			a, e := y.Do(line)
			b := booksOf(x.setup, y)
			if !b.canBeTrue() {
				t.Fatalf("behind %q: %+v", line, b)
			}
			if e == api.OK {
				if want, _ := b.asked(x.setup, b.askedBehind(line)); a != want {
					t.Fatalf("%q: %q; want %q", line, a, want)
				}
			} else if a != "" {
				t.Fatalf("%q: %q, %d", line, a, e)
			}
		}
		b := booksOf(x.setup, y)
		for line, got := range replies(y, x.setup) {
			if want, e := b.asked(x.setup, line); got.answer != want || got.e != e {
				t.Fatalf("%q behind %q: %q, %d; want %q, %d", line, y.Journal(), got.answer, got.e, want, e)
			}
		}
	}
}

// TestWhatIsLetIn tells by the layers what is let in: what is valid, has room, and can be true (P11.2).
func TestWhatIsLetIn(t *testing.T) {
	r := rand.New(rand.NewSource(2))
	for range rounds {
		x := someRoad(r)
		y := made(t, x.setup)
		for range 40 {
			line := anyLine(r, x.setup)
			before := knows(y)
			b := booksOf(x.setup, y)
			_, e := y.Do(line)
			if want := b.letsIn(x.setup, line); e != want {
				t.Fatalf("%q behind %q: %d; want %d", line, before.journal, e, want)
			}
			if e != api.OK && !knows(y).same(before) {
				t.Fatalf("%q, %d: %+v; before %+v", line, e, knows(y), before)
			}
		}
	}
}

// letsIn returns the error of a line of the right form that tells something.
func (b books) letsIn(s api.SurveyorSetup, line string) api.Errno {
	l := strings.Fields(line)
	n := make([]int, len(l))
	for i, token := range l[1:] {
		number, err := strconv.Atoi(token)
		if err != nil {
			number = slices.Index(s.Names, token)
			if number < 0 {
				return api.ErrSurveyorUnknown
			}
		}
		n[i] = number
	}
	alone := booksOf(s, nil)
	isFull := false
	switch l[0] {
	case "staff":
		staff := api.RutStaff{Mile: n[0], Day: n[1], Read: n[2], Error: n[3]}
		isFull = len(b.rut.Staffs) == 5
		alone.rut.Staffs, b.rut.Staffs = append(alone.rut.Staffs, staff), append(b.rut.Staffs, staff)
	case "pass":
		pass := api.WeighPass{Wagon: n[0], Load: to(n[1], n[2]), Shown: n[3], Error: n[4], Paid: n[5]}
		isFull = len(b.weigh.Passes) == 6
		alone.weigh.Passes, b.weigh.Passes = append(alone.weigh.Passes, pass), append(b.weigh.Passes, pass)
	case "clock":
		clock := api.ClaimClock{Stage: n[0], Read: n[1], Error: n[2]}
		isFull = len(b.claim.Clocks) == 4
		alone.claim.Clocks, b.claim.Clocks = append(alone.claim.Clocks, clock), append(b.claim.Clocks, clock)
	default:
		load := map[string]api.StoneMove{
			"dig":  {From: api.StoneOut, To: n[0], Carter: n[1], Told: n[2]},
			"cart": {From: n[0], To: n[1], Carter: n[2], Told: n[min(3, len(n)-1)]},
			"lay":  {From: n[0], To: api.StoneOut, Carter: n[1], Told: n[2]},
		}[l[0]]
		isFull = len(b.stone.Moves) == 5
		alone.stone.Moves, b.stone.Moves = append(alone.stone.Moves, load), append(b.stone.Moves, load)
	}
	switch {
	case rut.Check(alone.rut) != api.OK || weigh.Check(alone.weigh) != api.OK || stone.Check(alone.stone) != api.OK || claim.Check(alone.claim) != api.OK:
		return api.ErrRange
	case isFull:
		return api.ErrFull
	case !b.canBeTrue():
		return api.ErrSurveyorFalse
	default:
		return api.OK
	}
}

// TestYearIsMendedAgain opens surveyors from files: they have the same file, and give the same answers, also of what they are told then (P11.6).
func TestYearIsMendedAgain(t *testing.T) {
	r := rand.New(rand.NewSource(3))
	for range rounds {
		x := someRoad(r)
		y := made(t, x.setup)
		for range r.Intn(30) {
			y.Do(anyLine(r, x.setup))
		}
		z, at, e := surveyor.Open(x.setup, y.File())
		if z == nil || e != api.OK || at != len(y.Journal()) || !knows(z).same(knows(y)) {
			t.Fatalf("Open of %q: %d, %d", y.File(), at, e)
		}
		for range 10 {
			line := anyLine(r, x.setup)
			a, e := y.Do(line)
			if b, f := z.Do(line); a != b || e != f {
				t.Fatalf("%q: %q, %d; opened %q, %d", line, a, e, b, f)
			}
		}
		opened := replies(z, x.setup)
		for line, want := range replies(y, x.setup) {
			if opened[line] != want {
				t.Fatalf("%q: %+v; opened %+v", line, want, opened[line])
			}
		}
		if y.File() != z.File() {
			t.Fatalf("the files %q and %q", y.File(), z.File())
		}
	}
}

// TestNotLetIn asks before and behind lines that are not let in, and lines that ask (P11.7).
func TestNotLetIn(t *testing.T) {
	r := rand.New(rand.NewSource(4))
	for range rounds / 2 {
		x := someRoad(r)
		y := made(t, x.setup)
		for range 12 {
			before, want := knows(y), replies(y, x.setup)
			if !knows(y).same(before) {
				t.Fatalf("behind questions: %+v; before %+v", knows(y), before)
			}
			line := anyLine(r, x.setup)
			_, e := y.Do(line)
			if e == api.OK {
				continue
			}
			got := replies(y, x.setup)
			for question := range want {
				if got[question] != want[question] {
					t.Fatalf("%q behind %q: %+v; before %+v", question, line, got[question], want[question])
				}
			}
			if !knows(y).same(before) {
				t.Fatalf("%q, %d: %+v; before %+v", line, e, knows(y), before)
			}
		}
	}
}

// TestThreeOthers tells something of one kind: no answer of another kind changes (P11.9).
func TestThreeOthers(t *testing.T) {
	r := rand.New(rand.NewSource(5))
	for range rounds / 2 {
		x := someRoad(r)
		y := made(t, x.setup)
		h := &happened{heaps: slices.Clone(x.heaps)}
		for range 10 {
			before := replies(y, x.setup)
			line, behind := x.rightly(r, h)
			if _, e := y.Do(line); e != api.OK {
				continue
			}
			behind()
			for question, got := range replies(y, x.setup) {
				if kindOf(question) != kindOf(line) && got != before[question] {
					t.Fatalf("%q behind %q: %+v; before %+v", question, line, got, before[question])
				}
			}
		}
	}
}

// spanOf returns the span that a question is answered with.
func spanOf(t *testing.T, y *surveyor.Surveyor, question string) api.Span {
	t.Helper()
	a, e := y.Do(question)
	l := strings.Fields(a)
	if e != api.OK || len(l) != 2 {
		t.Fatalf("%q: %q, %d", question, a, e)
	}
	low, _ := strconv.Atoi(l[0])
	high, _ := strconv.Atoi(l[1])
	return to(low, high)
}

func lies(n int, s api.Span) bool { return s.Low <= n && n <= s.High }

// TestWhatIsTrulySo tells surveyors rightly of a road: all is let in as long as there is room, and what is true lies between what is answered (P11.10).
func TestWhatIsTrulySo(t *testing.T) {
	r := rand.New(rand.NewSource(6))
	for range 2 * rounds {
		x := someRoad(r)
		y := made(t, x.setup)
		h := &happened{heaps: slices.Clone(x.heaps)}
		most := [4]int{5, 5, 6, 4}
		var told [4]int
		for range 30 {
			line, behind := x.rightly(r, h)
			kind := kindOf(line)
			_, e := y.Do(line)
			switch {
			case told[kind] == most[kind]:
				if e != api.ErrFull {
					t.Fatalf("%q: %d", line, e)
				}
			case e != api.OK:
				t.Fatalf("%q behind %q: %d", line, y.Journal(), e)
			default:
				told[kind]++
				behind()
			}
			x.isTruly(t, y, h)
		}
	}
}

// isTruly holds all that is truly so against what is answered.
func (x road) isTruly(t *testing.T, y *surveyor.Surveyor, h *happened) {
	t.Helper()
	truly := map[string]int{"off": x.off, "laid": h.laid}
	for mile := range x.starts {
		for day := range x.frost {
			truly[text("deep", mile, day)] = x.deep(mile, day)
		}
	}
	for kind, wear := range x.wears {
		truly[text("wears", kind)] = wear
	}
	for n, yards := range h.yards {
		truly[text("yards", n)] = yards
		truly[text("wages", h.carters[n], 1)] += yards
	}
	for n, heap := range h.heaps {
		truly[text("heap", n, len(h.yards))] = heap
		truly[text("heap", n, 0)] = x.heaps[n]
	}
	for n, tare := range x.tares {
		truly[text("tare", n)] = tare
	}
	for n, weight := range h.weights {
		truly[text("weighs", n)] = weight
	}
	for n, stage := range x.setup.Stages {
		truly[text("comes", n)] = x.comes(n)
		truly[text("late", n)] = max(0, x.comes(n)-stage.Due)
	}
	for question, n := range truly {
		if s := spanOf(t, y, question); !lies(n, s) {
			t.Fatalf("%q behind %q: %v; truly %d", question, y.Journal(), s, n)
		}
	}
	if a, _ := y.Do("weather"); !slices.Contains(strings.Fields(a), strconv.Itoa(x.sky)) {
		t.Fatalf("weather: %q; truly %d", a, x.sky)
	}
	for day, frost := range x.frost {
		if a, _ := y.Do(text("frost", day)); a == "0" && frost == 1 || a == "2" && frost == 0 {
			t.Fatalf("frost %d: %q; truly %d", day, a, frost)
		}
	}
}

// TestOneMore tells one thing more: no span is wider (P11.11).
func TestOneMore(t *testing.T) {
	r := rand.New(rand.NewSource(7))
	for range rounds {
		x := someRoad(r)
		y := made(t, x.setup)
		h := &happened{heaps: slices.Clone(x.heaps)}
		for range 12 {
			before := map[string]api.Span{}
			for _, question := range questions(x.setup) {
				if strings.Contains("deep wears yards tare off weighs comes late", strings.Fields(question)[0]) {
					if _, e := y.Do(question); e == api.OK {
						before[question] = spanOf(t, y, question)
					}
				}
			}
			line, behind := x.rightly(r, h)
			if _, e := y.Do(line); e == api.OK {
				behind()
			}
			for question, was := range before {
				if s := spanOf(t, y, question); s.Low < was.Low || s.High > was.High {
					t.Fatalf("%q behind %q: %v; before %v", question, line, s, was)
				}
			}
		}
	}
}

func BenchmarkOpen(bench *testing.B) {
	y, _ := surveyor.New(setup())
	for _, line := range []string{"staff 0 1 24 0", "staff 0 0 15 3", "dig 0 ann 4", "cart 0 1 ben 6", "lay 1 ann 6", "lay 1 ben 6", "pass 0 0 0 22 0 0", "pass 1 5 6 36 0 10", "clock 1 66 0", "clock 0 31 3"} {
		y.Do(line)
	}
	for bench.Loop() {
		surveyor.Open(setup(), y.File())
	}
}
