package tests

import (
	"math"
	"math/rand"
	"slices"
	"testing"

	"loop.example/g00691/impl"
)

func checkConfigFault(t *testing.T, c impl.Config, want int64) {
	t.Helper()
	if got := impl.ConfigFault(c); got != want {
		t.Fatalf("ConfigFault of %+v = %d, want %d", c, got, want)
	}
}

func checkEventFault(t *testing.T, what string, e impl.Event, want int64) {
	t.Helper()
	if got := impl.EventFault(e); got != want {
		t.Fatalf("%s: EventFault of %.300v = %d, want %d", what, e, got, want)
	}
}

func TestEachBoundOfAConfig(t *testing.T) {
	right := impl.Config{Lines: 8, Threads: 2, Clock: 5}
	checkConfigFault(t, right, impl.OK)
	for lines, code := range map[int64]int64{4: 0, 5: 0, 40: 0, 41: 0, 3: impl.ErrMany, 42: impl.ErrMany, 2: impl.ErrMany, 0: impl.ErrMany, -4: impl.ErrMany, math.MinInt64: impl.ErrMany, math.MaxInt64: impl.ErrMany} {
		checkConfigFault(t, impl.Config{Lines: lines, Threads: right.Threads, Clock: right.Clock}, code)
	}
	for threads, code := range map[int64]int64{1: 0, 2: 0, 3: 0, 4: 0, 0: impl.ErrRange, 5: impl.ErrRange, -1: impl.ErrRange, math.MinInt64: impl.ErrRange, math.MaxInt64: impl.ErrRange} {
		checkConfigFault(t, impl.Config{Lines: right.Lines, Threads: threads, Clock: right.Clock}, code)
	}
	for clock, code := range map[int64]int64{2: 0, 3: 0, 9998: 0, 9999: 0, 1: impl.ErrRange, 10000: impl.ErrRange, 0: impl.ErrRange, -2: impl.ErrRange, math.MinInt64: impl.ErrRange, math.MaxInt64: impl.ErrRange} {
		checkConfigFault(t, impl.Config{Lines: right.Lines, Threads: right.Threads, Clock: clock}, code)
	}
}

func TestTheLinesOfAConfigAreAskedAheadOfAllElse(t *testing.T) {
	numbers := []int64{math.MinInt64, -1, 0, 1, 2, 3, 4, 5, 8, 41, 42, 9999, 10000, math.MaxInt64}
	for _, lines := range numbers {
		for _, threads := range numbers {
			for _, clock := range numbers {
				c := impl.Config{Lines: lines, Threads: threads, Clock: clock}
				checkConfigFault(t, c, configFaultByRule(c))
			}
		}
	}
	checkConfigFault(t, impl.Config{}, impl.ErrMany)
	checkConfigFault(t, impl.Config{Lines: 3, Threads: 0, Clock: 0}, impl.ErrMany)
	checkConfigFault(t, impl.Config{Lines: 4, Threads: 0, Clock: 0}, impl.ErrRange)
}

// neededOfEvents: of each kind of event the fields that it needs besides its Kind.
func neededOfEvents() map[int64][]string {
	return map[int64][]string{
		impl.EvBegin:  {"Who", "Op"},
		impl.EvPick:   {"Who"},
		impl.EvDaemon: {},
		impl.EvEvict:  {"At"},
		impl.EvCrash:  {"Fates"},
		impl.EvMount:  {},
	}
}

// eventTurns: each sets one field of an event, or one of its Op, to a value that is not zero.
func eventTurns() map[string][]func(*impl.Event) {
	return map[string][]func(*impl.Event){
		"Who":   {func(e *impl.Event) { e.Who = 1 }, func(e *impl.Event) { e.Who = 3 }},
		"At":    {func(e *impl.Event) { e.At = 1 }, func(e *impl.Event) { e.At = 327 }},
		"Fates": {func(e *impl.Event) { e.Fates = []int64{0} }, func(e *impl.Event) { e.Fates = []int64{1, 0, 1} }},
		"Op": {
			func(e *impl.Event) { e.Op = syncOp() }, func(e *impl.Event) { e.Op = makeDir("/a") }, func(e *impl.Event) { e.Op.Kind = -1 },
			func(e *impl.Event) { e.Op.Path = "/" }, func(e *impl.Event) { e.Op.To = "x" }, func(e *impl.Event) { e.Op.Dir = true },
			func(e *impl.Event) { e.Op.Index = -1 }, func(e *impl.Event) { e.Op.Numbers = []int64{0} },
		},
	}
}

// rightEvent has what its kind needs.
func rightEvent(kind int64) impl.Event {
	e := impl.Event{Kind: kind}
	for _, field := range neededOfEvents()[kind] {
		eventTurns()[field][0](&e)
	}
	return e
}

func TestEventsWithJustWhatTheyNeed(t *testing.T) {
	for kind := range neededOfEvents() {
		checkEventFault(t, "a right one", rightEvent(kind), 0)
	}
	for _, e := range oneOfEachEvent() {
		checkEventFault(t, "a right one", e, 0)
		e.Op.Numbers = []int64{}
		checkEventFault(t, "empty Numbers", e, 0)
	}
	for _, o := range slices.Concat(oneOfEachKind(), []impl.Op{rightOp(impl.OpMake), rightOp(impl.OpWrite), rightOp(impl.OpCut)}) {
		checkEventFault(t, "a right op", beginEvent(3, o), 0)
	}
	checkEventFault(t, "no fates", crashEvent(), 0)
	checkEventFault(t, "empty Fates", impl.Event{Kind: impl.EvDaemon, Fates: []int64{}, Op: impl.Op{Numbers: []int64{}}}, 0)
}

func TestEventsWithWhatTheyDoNotNeed(t *testing.T) {
	for kind, needed := range neededOfEvents() {
		for field, turns := range eventTurns() {
			if slices.Contains(needed, field) {
				continue
			}
			for _, turn := range turns {
				e := rightEvent(kind)
				turn(&e)
				checkEventFault(t, field, e, impl.ErrForm)
				// It is asked ahead of all else.
				for _, wrong := range []func(*impl.Event){
					func(e *impl.Event) { e.Who = -1 }, func(e *impl.Event) { e.At = 328 }, func(e *impl.Event) { e.Fates = make([]int64, 41) }, func(e *impl.Event) { e.Fates = []int64{2} },
				} {
					other := e
					wrong(&other)
					checkEventFault(t, field+" and more", other, impl.ErrForm)
				}
			}
		}
	}
	for kind := range neededOfEvents() {
		for _, n := range []int64{math.MinInt64, -1, 4, 328, math.MaxInt64} {
			if kind > impl.EvPick {
				checkEventFault(t, "a Who that is not needed", impl.Event{Kind: kind, Who: n}, impl.ErrForm)
			}
			if kind != impl.EvEvict {
				checkEventFault(t, "an At that is not needed", impl.Event{Kind: kind, At: n}, impl.ErrForm)
			}
		}
	}
}

func TestKindsOfEventsThatAreNone(t *testing.T) {
	for _, kind := range []int64{math.MinInt64, -1, 0, 7, 8, 100, math.MaxInt64} {
		checkEventFault(t, "nothing else", impl.Event{Kind: kind}, impl.ErrForm)
		for field, turns := range eventTurns() {
			for _, turn := range turns {
				e := impl.Event{Kind: kind}
				turn(&e)
				checkEventFault(t, field, e, impl.ErrForm)
			}
		}
	}
}

func TestThreadsAndWordsOfEvents(t *testing.T) {
	for _, who := range []int64{0, 1, 2, 3} {
		checkEventFault(t, "a thread", pickEvent(who), 0)
		checkEventFault(t, "a thread", beginEvent(who, syncOp()), 0)
	}
	for _, who := range []int64{math.MinInt64, -2, -1, 4, 5, math.MaxInt64} {
		checkEventFault(t, "no thread", pickEvent(who), impl.ErrRange)
		checkEventFault(t, "no thread", beginEvent(who, syncOp()), impl.ErrRange)
		// The thread is asked ahead of the op.
		for _, o := range []impl.Op{{}, makeFile("x"), makeFile("/a/b/c/d/e"), cutOp("/a", 5)} {
			checkEventFault(t, "no thread and no op", beginEvent(who, o), impl.ErrRange)
		}
	}
	for _, at := range []int64{0, 1, 8, 100, 326, 327} {
		checkEventFault(t, "a word", evictEvent(at), 0)
	}
	for _, at := range []int64{math.MinInt64, -2, -1, 328, 329, math.MaxInt64} {
		checkEventFault(t, "no word", evictEvent(at), impl.ErrRange)
	}
}

func TestFatesOfEvents(t *testing.T) {
	for many := range 41 {
		checkEventFault(t, "fates", crashEvent(make([]int64, many)...), 0)
		checkEventFault(t, "fates", crashEvent(slices.Repeat([]int64{1}, many)...), 0)
	}
	for _, many := range []int{41, 42, 1000, 100000} {
		checkEventFault(t, "too many fates", crashEvent(make([]int64, many)...), impl.ErrMany)
		// How many there are is asked ahead of each of them.
		checkEventFault(t, "too many fates that are none", crashEvent(slices.Repeat([]int64{2}, many)...), impl.ErrMany)
	}
	for _, fate := range []int64{math.MinInt64, -1, 2, 3, math.MaxInt64} {
		for place := range 40 {
			fates := slices.Repeat([]int64{1, 0}, 20)
			fates[place] = fate
			checkEventFault(t, "no fate", crashEvent(fates...), impl.ErrRange)
		}
		checkEventFault(t, "no fate", crashEvent(fate), impl.ErrRange)
	}
}

// faultyOps: of each code of OpFault some ops.
func faultyOps() map[int64][]impl.Op {
	return map[int64][]impl.Op{
		impl.ErrForm:  {{}, {Kind: 9}, {Kind: -1, Path: "/a"}, {Kind: impl.OpSync, Path: "/a"}, {Kind: impl.OpDrop, Path: "/a", Dir: true}, {Kind: impl.OpMake, Path: "/a", To: "/b"}},
		impl.ErrText:  {makeFile(""), makeDir("a"), readOp("/A"), moveOp("/a", "b"), cutOp("/a/", 0)},
		impl.ErrMany:  {makeFile("/a/b/c/d/e"), moveOp("/a", "/a/b/c/d/e"), writeOp("/a", 0, 1, 2, 3), writeOp("/a", 0)},
		impl.ErrRange: {writeOp("/a", 4, 1, 2, 3, 4), writeOp("/a", -1, 1, 2, 3, 4), cutOp("/a", 5), cutOp("/a", -1), writeOp("/a", 0, 1, 2, 3, 10000), writeOp("/a", 0, -1, 2, 3, 4)},
	}
}

func TestEachCodeOfAnOpIsTheEvents(t *testing.T) {
	for code, ops := range faultyOps() {
		for _, o := range ops {
			checkOpFault(t, o, code)
			for who := range int64(4) {
				checkEventFault(t, "an op with a fault", beginEvent(who, o), code)
			}
		}
	}
	for _, o := range slices.Concat(askedOps(), farOps()) {
		checkEventFault(t, "any op", beginEvent(0, o), impl.OpFault(o))
	}
}

func TestAnyEventIsAnsweredAsTheDocumentTells(t *testing.T) {
	r := rand.New(rand.NewSource(50))
	seen := map[int64]int{}
	for range 20000 {
		e := oneOfEachEvent()[r.Intn(6)]
		if e.Kind == impl.EvBegin {
			e.Op = spoiltOp(r, anyOp(r, someItems()))
		}
		for range r.Intn(3) {
			e = spoiltEvent(r, e)
		}
		want := eventFaultByRule(e)
		checkEventFault(t, "any event", e, want)
		seen[want]++
	}
	checkSeen(t, seen, impl.OK, impl.ErrForm, impl.ErrMany, impl.ErrRange, impl.ErrText)
}
