package tests

import (
	"slices"
	"testing"

	"loop.example/g00691/impl"
)

// checkNothingOnItsWay: nothing is left to be kept, and each line but the first one is free or has a node or a piece of what there is.
func checkNothingOnItsWay(t *testing.T, what string, s impl.State) {
	t.Helper()
	checkNobodyBusy(t, what, s)
	checkCells(t, what, s, nil, nil)
	live := liveByRule(s.Device.Words)
	if live.Code != 0 || len(live.Dead) > 0 || s.Now != s.Sure || s.Now != live.Clock {
		t.Fatalf("%s: what is kept has the code %d, the clock %d and the dead lines %v; Now is %d and Sure %d", what, live.Code, live.Clock, live.Dead, s.Now, s.Sure)
	}
	lines := len(freeByRule(s.Device.Words).List) + len(live.Nodes) + len(live.Datas)
	if 8*(lines+1) != len(s.Device.Words) {
		t.Fatalf("%s: %d lines are free, or have a node or a piece", what, lines)
	}
	checkFreeLines(t, what, s, int64(len(freeByRule(s.Device.Words).List)))
	checkItemsResult(t, what, impl.TreeOf(s.Device.Words), impl.ItemsResult{Items: s.Items})
}

// checkSettled: it takes so many steps of the daemon behind these events, with nobody busy, and none has a code.
func checkSettled(t *testing.T, what string, c impl.Config, events []impl.Event, steps int) impl.State {
	t.Helper()
	s := settled(t, c, events)
	checkCodesBehind(t, what, s, len(events), zeros(steps)...)
	if len(s.Codes) <= 200 {
		checkStateResult(t, what, impl.StateResult{State: s}, impl.StateResult{State: ran(t, c, events, daemonSteps(steps))})
	}
	checkNothingOnItsWay(t, what, s)
	return s
}

func TestSettlingEndsWithTheFifthRest(t *testing.T) {
	c := impl.Config{Lines: 4, Threads: 2, Clock: 2}
	// Resting at first it takes five whole rounds of the daemon; in the midst of one what is left of that, and four.
	for steps := range 19 {
		s := checkSettled(t, "nothing to do", c, daemonSteps(steps), 30-steps%6)
		clock := int64(2 + steps/6 + 5)
		checkClocks(t, "nothing to do", s, clock, clock, clock)
		if len(s.Notes) > 0 || s.Free != 3 {
			t.Errorf("settling turned something: %+v", s)
		}
	}
}

func TestSettlingKeepsWhatWasDone(t *testing.T) {
	c := impl.Config{Lines: 8, Threads: 1, Clock: 2}
	// Behind the first rest one line is flushed.
	s := checkSettled(t, "made", c, doing(0, makeFile("/a")), 31)
	checkKeptLine(t, "made", s, 1, fileBlock(1, 0, "a", 0, 2)...)
	checkFreeLines(t, "made", s, 6)
	checkStateItems(t, "made", s, impl.Item{Path: "/a"})
	checkEnded(t, "made", s, 0, makeFile("/a"), 2)
	// One is flushed, and the older one is cleared.
	older := throughRounds(c, doing(0, makeFile("/a")), 2)
	s = checkSettled(t, "moved", c, append(slices.Clone(older), doing(0, moveOp("/a", "/b"))...), 32)
	checkKeptLine(t, "moved", s, 1, 0)
	checkKeptLine(t, "moved", s, 2, fileBlock(1, 0, "b", 0, 4)...)
	checkFreeLines(t, "moved", s, 6)
	checkStateItems(t, "moved", s, impl.Item{Path: "/b"})
	// One is flushed, the older one is cleared, and a round later the line that told that it is gone.
	s = checkSettled(t, "dropped", c, append(slices.Clone(older), doing(0, dropOp("/a"))...), 33)
	checkKeptLine(t, "dropped", s, 1, 0)
	checkKeptLine(t, "dropped", s, 2, 0)
	checkFreeLines(t, "dropped", s, 7)
	checkStateItems(t, "dropped", s)
}

func TestSettlingFromTheMidstOfEachPhase(t *testing.T) {
	c := impl.Config{Lines: 12, Threads: 2, Clock: 2}
	// Three lines are flushed in one round, and two are cleared in the next but one.
	events := throughRounds(c, doing(0, makeFile("/a"), makeFile("/b")), 2)
	events = append(events, doing(1, moveOp("/a", "/x"), moveOp("/b", "/y"), makeDir("/d"))...)
	want := []impl.Item{dirItem("/d"), {Path: "/x"}, {Path: "/y"}}
	for steps := range 6 + 11 + 1 {
		rest := 35 - steps
		if steps >= 6 {
			// The round by which it rested is none of the five.
			rest += 6
		}
		if steps >= 6+11 {
			rest += 6
		}
		at := append(slices.Clone(events), daemonSteps(steps)...)
		s := checkSettled(t, "in the midst", c, at, rest)
		checkStateItems(t, "in the midst", s, want...)
	}
}

func TestSettlingBehindADraining(t *testing.T) {
	c := impl.Config{Lines: 41, Threads: 4, Clock: 2}
	begun := []impl.Event{beginEvent(0, dropOp("/a")), beginEvent(1, cutOp("/b", 1)), beginEvent(2, makeFile("/e")), beginEvent(3, readOp("/d"))}
	first, _ := drained(t, c, fullRings(), begun)
	s := settled(t, c, fullRings(), begun)
	checkNothingOnItsWay(t, "four threads", s)
	checkStateItems(t, "four threads", s, first.Items...)
	checkSameBeginning(t, "four threads", first, s)
	// A world that is not up comes up first.
	down := slices.Concat(doing(0, makeFile("/a"), writeOp("/a", 0, 1, 2, 3, 4)), []impl.Event{crashEvent(1)})
	s = settled(t, c, down)
	checkCodesBehind(t, "down", s, len(down), zeros(4+30)...)
	checkNothingOnItsWay(t, "down", s)
	checkFreeLines(t, "down", s, 40)
}

// checkSameBeginning: settling has a code more for each step, makes no notes, and turns nothing that is there.
func checkSameBeginning(t *testing.T, what string, drained impl.State, settled impl.State) {
	t.Helper()
	if len(settled.Codes) < len(drained.Codes) || !slices.Equal(settled.Codes[:len(drained.Codes)], drained.Codes) {
		t.Fatalf("%s: the codes %v are no beginning of %v", what, drained.Codes, settled.Codes)
	}
	if !sameNotesByRule(drained.Notes, settled.Notes) || !sameItemsByRule(drained.Items, settled.Items) {
		t.Fatalf("%s: settling turned the notes, or what there is: %+v, %+v", what, drained, settled)
	}
}

func TestSettlingEndsWithTheFirstCodeOfTheDaemon(t *testing.T) {
	// By as many rounds as there are epochs left a code ends it, but not behind five.
	for left := range int64(8) {
		c := impl.Config{Lines: 4, Threads: 1, Clock: 9999 - left}
		s := settled(t, c)
		if left >= 5 {
			checkCodesBehind(t, "five rests", s, 0, zeros(30)...)
			checkClocks(t, "five rests", s, c.Clock+5, c.Clock+5, c.Clock+5)
			continue
		}
		checkCodesBehind(t, "no epoch is left", s, 0, append(zeros(int(6*left)), impl.ErrState)...)
		checkClocks(t, "no epoch is left", s, 9999, 9999, 9999)
	}
	// In the midst of its last round the daemon goes on to its rest.
	c := impl.Config{Lines: 4, Threads: 1, Clock: 9998}
	for steps := range 7 {
		s := settled(t, c, daemonSteps(steps))
		checkCodesBehind(t, "the last round", s, steps, append(zeros(6-steps), impl.ErrState)...)
		checkClocks(t, "the last round", s, 9999, 9999, 9999)
	}
	// A code among the events, or in a round, does not end it.
	got := checkSettle(t, askedWorld{smallConfig(), []impl.Event{{Kind: 7}, mountEvent(), pickEvent(0)}})
	checkCodesBehind(t, "codes of events", got.State, 3, zeros(30)...)
	s := settled(t, impl.Config{Lines: 4, Threads: 1, Clock: 9999}, []impl.Event{beginEvent(0, syncOp())})
	checkCodesBehind(t, "a code in a round", s, 1, 0, impl.ErrState, impl.ErrState)
}

func TestWhatIsLeftWhereTheEpochsEndAheadOfTheFifthRest(t *testing.T) {
	c := impl.Config{Lines: 8, Threads: 1, Clock: 9995}
	dropped := append(throughRounds(c, doing(0, makeFile("/a")), 2), doing(0, dropOp("/a"))...)
	s := settled(t, c, dropped)
	// One round, one in which a line is flushed and one cleared, and then a code: what tells that it is gone stays.
	checkCodesBehind(t, "dropped late", s, len(dropped), append(zeros(6+8), impl.ErrState)...)
	checkClocks(t, "dropped late", s, 9999, 9999, 9999)
	checkCells(t, "dropped late", s, nil, nil)
	checkKeptLine(t, "dropped late", s, 1, 0)
	checkKeptLine(t, "dropped late", s, 2, goneBlock(1, 9997)...)
	checkFreeLines(t, "dropped late", s, 6)
	checkStateItems(t, "dropped late", s)
}

// fiveMutations: one of each kind, of which none has a code of the model where there are the items of someThings.
func fiveMutations() []impl.Op {
	return []impl.Op{makeFile("/new"), writeOp("/d/f", 0, 9, 9, 9, 9), cutOp("/d/f", 1), dropOp("/e"), moveOp("/e", "/d/e")}
}

func TestAtTheEndOfAllEpochsNothingIsChangedAnyMore(t *testing.T) {
	for _, clock := range []int64{9998, 9999} {
		c := impl.Config{Lines: 20, Threads: 1, Clock: clock}
		for _, o := range append(fiveMutations(), makeDir("/new"), dropOp("/none"), writeOp("/none", 0, 1, 2, 3, 4)) {
			begun := []impl.Event{beginEvent(0, o)}
			s, rounds := drained(t, c, begun)
			checkRounds(t, "the end", rounds, 1)
			checkReply(t, "the end", s, o, impl.Reply{Code: impl.ErrState})
			checkStateItems(t, "the end", s)
			checkStateItems(t, "the end", settled(t, c, begun))
			checkReply(t, "a pick", ran(t, c, begun, []impl.Event{pickEvent(0)}), o, impl.Reply{Code: impl.ErrState})
		}
	}
	// What there is by then stays, and is sure in the end.
	c := impl.Config{Lines: 20, Threads: 1, Clock: 9997}
	for rounds := 1; rounds <= 2; rounds++ {
		things := throughRounds(c, someThings(), rounds)
		for _, o := range fiveMutations() {
			begun := append(slices.Clone(things), beginEvent(0, o))
			s, _ := drained(t, c, begun)
			checkReply(t, "the end", s, o, impl.Reply{Code: impl.ErrState})
			checkStateItems(t, "the end", s, someThingsItems()...)
			s = settled(t, c, begun)
			checkNothingOnItsWay(t, "the end", s)
			checkStateItems(t, "the end", s, someThingsItems()...)
		}
	}
	for _, o := range fiveMutations() {
		s, _ := drained(t, c, someThings(), []impl.Event{beginEvent(0, o)})
		if n := lastNote(t, s); n.Kind != impl.NoteEnd || n.Reply.Code != 0 || n.Epoch != 9997 {
			t.Errorf("in the last epoch in which something is done %+v ends by %+v", o, n)
		}
	}
}

func TestWhatWasBegunInTimeIsChangedByTheEpochInWhichItIsPicked(t *testing.T) {
	// The ring is full, so it takes five rounds; the daemon ticks to 9998 in the third one.
	c := impl.Config{Lines: 41, Threads: 4, Clock: 9997}
	begun := []impl.Event{beginEvent(0, dropOp("/a")), beginEvent(2, makeFile("/e"))}
	s, rounds := drained(t, c, fullRings(), begun)
	checkRounds(t, "too late for one", rounds, 4)
	checkEnds(t, "too late for one", s, [2]int64{2, 0}, [2]int64{0, impl.ErrState})
	checkClocks(t, "too late for one", s, 9998, 9997, 9997)
	if len(s.Items) != 5 {
		t.Errorf("there is %v", s.Items)
	}
}

func TestWhoWaitsAtTheEndOfAllEpochsDoesNotWaitForEver(t *testing.T) {
	begun := []impl.Event{beginEvent(0, syncOp())}
	for clock, most := range map[int64]int64{9996: 12, 9997: 12, 9998: 6, 9999: 1} {
		c := impl.Config{Lines: 6, Threads: 4, Clock: clock}
		s, rounds := drained(t, c, begun)
		checkRounds(t, "one waits", rounds, most)
		checkReply(t, "one waits", s, syncOp(), impl.Reply{})
		if s.Sure < min(clock+2, 9999) {
			t.Errorf("from the clock %d on it ends when Sure is %d", clock, s.Sure)
		}
		// All wait, begun in each of the daemon's phases, and with something to flush.
		for steps := range min(12, 6*int(9999-clock)) + 1 {
			all := []impl.Event{beginEvent(3, syncOp()), beginEvent(1, syncOp()), beginEvent(2, makeFile("/a")), beginEvent(0, syncOp())}
			s, rounds := drained(t, c, daemonSteps(steps), all)
			checkNobodyBusy(t, "all wait", s)
			if rounds > 17 || rounds < 1 {
				t.Errorf("from the clock %d on, behind %d steps, it takes %d rounds", clock, steps, rounds)
			}
			checkNobodyBusy(t, "all wait", settled(t, c, daemonSteps(steps), all))
		}
	}
}
