package tests

import (
	"math"
	"slices"
	"testing"

	"loop.example/g00691/impl"
)

func checkTreeBehind(t *testing.T, what string, c impl.Config, events []impl.Event, fates []int64, want ...impl.Item) {
	t.Helper()
	got := checkCrashTree(t, askedWorld{c, events}, fates)
	checkItemsResult(t, what, got, impl.ItemsResult{Items: want})
}

func TestEachCodeOfTheRunIsAskedAheadOfTheFates(t *testing.T) {
	for _, fates := range [][]int64{nil, {0}, {1}, {2}, {0, -1}, {math.MinInt64}} {
		for c, code := range map[impl.Config]int64{
			{}:                                   impl.ErrMany,
			{Lines: 3, Threads: 1, Clock: 2}:     impl.ErrMany,
			{Lines: 42, Threads: 9, Clock: 2}:    impl.ErrMany,
			{Lines: 4, Threads: 0, Clock: 2}:     impl.ErrRange,
			{Lines: 4, Threads: 1, Clock: 1}:     impl.ErrRange,
			{Lines: 4, Threads: 1, Clock: 10000}: impl.ErrRange,
		} {
			checkItemsResult(t, "a config with a fault", impl.CrashTree(c, daemonSteps(3), fates), impl.ItemsResult{Code: code})
			checkItemsResult(t, "a config with a fault", impl.CrashTree(c, daemonSteps(201), fates), impl.ItemsResult{Code: code})
		}
		for _, many := range []int{201, 1000} {
			checkItemsResult(t, "too many events", impl.CrashTree(smallConfig(), make([]impl.Event, many), fates), impl.ItemsResult{Code: impl.ErrMany})
		}
	}
	checkTreeBehind(t, "two hundred events", smallConfig(), slices.Repeat(doing(0, makeFile("/a")), 100), []int64{1})
}

func TestFatesOfATreeThatAreNone(t *testing.T) {
	c := smallConfig()
	wrong := impl.ItemsResult{Code: impl.ErrRange}
	// Without cells, with sixteen of them, and while it is not up.
	for _, events := range [][]impl.Event{nil, doing(0, makeFile("/a"), makeFile("/b")), {crashEvent()}} {
		for _, fate := range []int64{math.MinInt64, -1, 2, 3, math.MaxInt64} {
			for _, many := range []int{1, 2, 8, 16, 17, 40, 41, 1000} {
				for _, place := range []int{0, many / 2, many - 1} {
					fates := slices.Repeat([]int64{1}, many)
					fates[place] = fate
					checkItemsResult(t, "no fate", impl.CrashTree(c, events, fates), wrong)
				}
			}
		}
		// As many as one likes are none too many.
		for _, many := range []int{0, 1, 40, 41, 1000, 100000} {
			for fate := range int64(2) {
				checkItemsResult(t, "many fates", impl.CrashTree(c, events, slices.Repeat([]int64{fate}, many)), impl.ItemsResult{})
			}
		}
	}
}

// tickOf: the file /a is of the epoch 2 and kept, /b is of the epoch 3 and nowhere but in cells, and the clock 4 is a cell, too.
func tickOf(c impl.Config, later []impl.Event, steps int) []impl.Event {
	events := throughRound(c, doing(0, makeFile("/a")))
	// The daemon closes, flushes the line of /a, fences, and ticks.
	return slices.Concat(events, daemonSteps(3), later, daemonSteps(steps))
}

// clockCell: the number of the clock's cell among all, in the order in which a crash tells them.
func clockCell(t *testing.T, s impl.State) int {
	t.Helper()
	at := slices.Index(slices.Concat(s.Device.Flights, s.Device.Over), impl.Cell{At: 1, Value: 4})
	if at < 0 {
		t.Fatalf("the clock is no cell: %+v", s.Device)
	}
	return at
}

func TestFatesTellWhichCellsOfATreeAreKept(t *testing.T) {
	c := impl.Config{Lines: 12, Threads: 2, Clock: 2}
	worlds := map[string]struct {
		events []impl.Event
		cells  [2]int
		clock  int
	}{
		"the clock alone, over":          {tickOf(c, nil, 1), [2]int{0, 1}, 0},
		"the clock alone, on its way":    {tickOf(c, nil, 2), [2]int{1, 0}, 0},
		"behind a file":                  {tickOf(c, doing(1, makeFile("/b")), 1), [2]int{0, 9}, 8},
		"ahead of a file":                {tickOf(c, doing(1, makeFile("/b")), 2), [2]int{1, 8}, 0},
		"behind what is flushed":         {tickOf(c, ringOf(1, "/b"), 1), [2]int{8, 33}, 40},
		"on its way behind another line": {tickOf(c, ringOf(1, "/b"), 2), [2]int{9, 32}, 8},
	}
	for what, w := range worlds {
		s := ran(t, c, w.events)
		cells := [2]int{len(s.Device.Flights), len(s.Device.Over)}
		if cells != w.cells || clockCell(t, s) != w.clock {
			t.Fatalf("%s: there are %v cells, and the clock is the number %d of them", what, cells, clockCell(t, s))
		}
		all := cells[0] + cells[1]
		checkTreeBehind(t, what+", no fates", c, w.events, nil)
		checkTreeBehind(t, what+", no fates", c, w.events, []int64{})
		for _, many := range []int{1, 2, 3, 5, 8, 9, 10, max(all-1, 1), all, all + 1, 2*all + 1, 100} {
			for place := range many {
				// Fewer fates than cells are taken again from the first one on.
				one, others := zeros(many), slices.Repeat([]int64{1}, many)
				one[place], others[place] = 1, 0
				if place == w.clock%many {
					checkTreeBehind(t, what+", kept", c, w.events, one, impl.Item{Path: "/a"})
					checkTreeBehind(t, what+", not kept", c, w.events, others)
				} else {
					checkTreeBehind(t, what+", not kept", c, w.events, one)
					checkTreeBehind(t, what+", kept", c, w.events, others, impl.Item{Path: "/a"})
				}
			}
		}
	}
}

func TestTheTreeOfWhatIsKeptByThen(t *testing.T) {
	c := impl.Config{Lines: 12, Threads: 1, Clock: 2}
	fates := [][]int64{nil, {0}, {1}, {0, 1}, {1, 0, 0}}
	// Nothing is sure until the clock is two more: by the fate 1 from the second tick on, by the fate 0 from that on by which it is fenced.
	things := someThings()
	many := len(throughRounds(c, things, 2)) - len(things)
	for steps := range many + 1 {
		s := ran(t, c, things, daemonSteps(steps))
		for _, fates := range fates {
			got := checkCrashTree(t, askedWorld{c, append(slices.Clone(things), daemonSteps(steps)...)}, fates)
			isSure := s.Device.Words[1] == 4 || s.Now == 4 && len(fates) == 1 && fates[0] == 1
			if isSure {
				checkItemsResult(t, "sure", got, impl.ItemsResult{Items: someThingsItems()})
			}
			if s.Now < 4 || len(fates) == 0 && s.Device.Words[1] < 4 {
				checkItemsResult(t, "not sure", got, impl.ItemsResult{})
			}
		}
	}
	// What is dropped or moved is there, until that is sure.
	dropped := append(throughRounds(c, things, 2), doing(0, dropOp("/e"), moveOp("/d", "/x"))...)
	for rounds, want := range [][]impl.Item{someThingsItems(), someThingsItems(), {dirItem("/x"), {Path: "/x/f", Data: []int64{1, 2, 3, 4, 5, 6, 7, 8}}}} {
		for _, fates := range fates {
			checkTreeBehind(t, "dropped and moved", c, throughRounds(c, dropped, rounds), fates, want...)
		}
	}
}

func TestTheTreeOfAWorldThatIsNotUp(t *testing.T) {
	c := impl.Config{Lines: 8, Threads: 1, Clock: 2}
	down := append(goneAndOlder(c), crashEvent(1))
	// In each step of coming up, whatever of it is kept, there is the same.
	for steps := range 7 {
		events := append(slices.Clone(down), mountSteps(steps)...)
		if isUp := ran(t, c, events).Up; isUp != (steps == 6) {
			t.Fatalf("behind %d steps it is up: %v", steps, isUp)
		}
		for _, fates := range [][]int64{nil, {0}, {1}, {0, 1}, {1, 0}, slices.Repeat([]int64{1}, 60)} {
			checkTreeBehind(t, "coming up", c, events, fates, impl.Item{Path: "/b"})
		}
	}
	checkTreeBehind(t, "crashed twice", c, append(down, mountEvent(), mountEvent(), crashEvent(1)), []int64{1}, impl.Item{Path: "/b"})
	checkTreeBehind(t, "empty", c, []impl.Event{crashEvent()}, []int64{1})
}

func TestWhatIsSettledIsKeptWhateverCrashes(t *testing.T) {
	// Behind two rounds all of it is sure, at the end of all epochs, too.
	for _, clock := range []int64{2, 700, 9997} {
		c := impl.Config{Lines: 12, Threads: 1, Clock: clock}
		for _, fates := range [][]int64{nil, {1}, {0, 1}} {
			checkTreeBehind(t, "two rounds", c, throughRounds(c, someThings(), 2), fates, someThingsItems()...)
			checkTreeBehind(t, "one round", c, throughRounds(c, someThings(), 1), fates)
		}
	}
}

func TestATreeIsWhatTreeOfTellsAndTurnsNoState(t *testing.T) {
	c := smallConfig()
	for what, events := range differentWorlds() {
		before := ran(t, c, events)
		held := copyOfState(before)
		cells := len(before.Device.Flights) + len(before.Device.Over)
		for _, fates := range [][]int64{zeros(cells), slices.Repeat([]int64{1}, cells)} {
			got := impl.CrashTree(c, events, fates)
			checkItemsResult(t, what, got, impl.TreeOf(impl.CrashDevice(before.Device, fates).Device.Words))
		}
		checkStateResult(t, what, impl.StateResult{State: before}, impl.StateResult{State: held})
		checkStateResult(t, what, impl.StateResult{State: ran(t, c, events)}, impl.StateResult{State: held})
	}
}
