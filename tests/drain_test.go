package tests

import (
	"slices"
	"testing"

	"loop.example/g00691/impl"
)

func TestEachCodeOfTheRunIsTheDrainings(t *testing.T) {
	configs := map[impl.Config]int64{
		{}:                                   impl.ErrMany,
		{Lines: 3, Threads: 1, Clock: 2}:     impl.ErrMany,
		{Lines: 42, Threads: 1, Clock: 2}:    impl.ErrMany,
		{Lines: 3, Threads: 0, Clock: 1}:     impl.ErrMany,
		{Lines: 4, Threads: 0, Clock: 2}:     impl.ErrRange,
		{Lines: 4, Threads: 5, Clock: 2}:     impl.ErrRange,
		{Lines: 4, Threads: 1, Clock: 1}:     impl.ErrRange,
		{Lines: 4, Threads: 1, Clock: 10000}: impl.ErrRange,
	}
	for c, code := range configs {
		for _, many := range []int{0, 1, 200, 201} {
			checkDrainResult(t, "a config with a fault", impl.DrainWorld(c, daemonSteps(many)), impl.DrainResult{Code: code})
			checkStateResult(t, "a config with a fault", impl.SettleWorld(c, daemonSteps(many)), impl.StateResult{Code: code})
		}
	}
	for _, many := range []int{201, 202, 1000} {
		for _, events := range [][]impl.Event{daemonSteps(many), make([]impl.Event, many), mountSteps(many)} {
			checkDrainResult(t, "too many events", impl.DrainWorld(smallConfig(), events), impl.DrainResult{Code: impl.ErrMany})
			checkStateResult(t, "too many events", impl.SettleWorld(smallConfig(), events), impl.StateResult{Code: impl.ErrMany})
		}
	}
}

func TestTwoHundredEventsAreDrainedWhateverComesBehindThem(t *testing.T) {
	c := smallConfig()
	busy := append(daemonSteps(198), beginEvent(0, syncOp()), beginEvent(1, listOp("/")))
	s, rounds := drained(t, c, busy)
	checkRounds(t, "two are busy", rounds, 12)
	checkCodesBehind(t, "two are busy", s, 200, zeros(12+1+12)...)
	checkCodesBehind(t, "two are busy", settled(t, c, busy), 200, zeros(12+1+12+30)...)
	down := append(daemonSteps(199), crashEvent())
	s, rounds = drained(t, c, down)
	checkRounds(t, "down", rounds, 0)
	checkCodesBehind(t, "down", s, 200, 0, 0)
	// Of 200 events each may have a code.
	got := checkDrain(t, askedWorld{c, make([]impl.Event, 200)})
	checkRounds(t, "all are wrong", got.Rounds, 0)
	checkCodesBehind(t, "all are wrong", got.State, 0, slices.Repeat([]int64{impl.ErrForm}, 200)...)
}

func TestWithoutEventsThereIsNothingToDrain(t *testing.T) {
	for _, c := range []impl.Config{{Lines: 4, Threads: 1, Clock: 2}, {Lines: 41, Threads: 4, Clock: 9999}, {Lines: 12, Threads: 3, Clock: 700}} {
		for _, events := range [][]impl.Event{nil, {}} {
			want := impl.DrainResult{State: ran(t, c)}
			checkDrainResult(t, "no events", impl.DrainWorld(c, events), want)
		}
	}
}

func TestAWorldInWhichNobodyIsBusyStaysAsItIs(t *testing.T) {
	c := smallConfig()
	for what, events := range differentWorlds() {
		before := ran(t, c, events)
		if !before.Up || slices.Contains(before.Busy, true) {
			continue
		}
		s, rounds := drained(t, c, events)
		checkRounds(t, what, rounds, 0)
		checkStateResult(t, what, impl.StateResult{State: s}, impl.StateResult{State: before})
	}
	// Nobody is busy where all that began has ended, with a code or without, and events with a code are no events more.
	events := slices.Concat(someThings(), doing(1, dropOp("/none")), mountSteps(1), []impl.Event{pickEvent(0), pickEvent(7)})
	s := ranWithCodes(t, c, events)
	checkCodes(t, "all has ended", s, impl.ErrState, impl.ErrState, impl.ErrRange)
	checkDrainResult(t, "all has ended", checkDrain(t, askedWorld{c, events}), impl.DrainResult{State: s})
}

// fromDown: what there is behind these events, when they are drained, which takes so many steps of a mount and no round.
func fromDown(t *testing.T, what string, c impl.Config, steps int, parts ...[]impl.Event) impl.State {
	t.Helper()
	before := ran(t, c, parts...)
	if before.Up {
		t.Fatalf("%s: it is up already", what)
	}
	s, rounds := drained(t, c, parts...)
	checkRounds(t, what, rounds, 0)
	checkCodesBehind(t, what, s, len(before.Codes), zeros(steps)...)
	checkStateResult(t, what, impl.StateResult{State: s}, impl.StateResult{State: ran(t, c, append(parts, mountSteps(steps))...)})
	checkNobodyBusy(t, what, s)
	if len(s.Notes) != len(before.Notes)+1 || lastNote(t, s).Kind != impl.NoteUp {
		t.Fatalf("%s: the notes are %+v", what, s.Notes)
	}
	return s
}

func TestAWorldThatIsNotUpComesUp(t *testing.T) {
	c := impl.Config{Lines: 8, Threads: 2, Clock: 2}
	// With nothing to clear it takes two steps.
	for done := range 2 {
		s := fromDown(t, "nothing to clear", c, 2-done, []impl.Event{beginEvent(1, syncOp()), crashEvent()}, mountSteps(done))
		checkUp(t, "nothing to clear", s, 2, 7)
	}
	// With three lines that are dead it takes five: ahead of any, in the midst of clearing, and just ahead of the last one.
	down := slices.Concat(doing(0, makeFile("/a"), writeOp("/a", 0, 1, 2, 3, 4), makeDir("/b")), []impl.Event{crashEvent(1)})
	for done := range 5 {
		s := fromDown(t, "three to clear", c, 5-done, down, mountSteps(done))
		checkUp(t, "three to clear", s, 2, 7)
	}
	// With two of them, and one that is gone and sure, it takes six.
	gone := append(goneAndOlder(c), crashEvent(1))
	for done := range 6 {
		s := fromDown(t, "one is gone", c, 6-done, gone, mountSteps(done))
		checkUp(t, "one is gone", s, 6, 6, impl.Item{Path: "/b"})
	}
	// What is read is read anew behind another crash, so all five steps are to be done once more; what is fenced is not.
	for done := range 5 {
		fromDown(t, "crashed again", c, 5, down, mountSteps(done), []impl.Event{crashEvent()})
		fromDown(t, "kept and crashed again", c, 5-max(done-1, 0), down, mountSteps(done), []impl.Event{crashEvent(1)})
	}
	s, rounds := drained(t, c, down, mountSteps(5))
	checkRounds(t, "it is up already", rounds, 0)
	checkCodesBehind(t, "it is up already", s, len(down)+5)
}

func TestWhatWasWantedAheadOfACrashIsNotDrained(t *testing.T) {
	c := impl.Config{Lines: 8, Threads: 3, Clock: 2}
	busy := []impl.Event{beginEvent(2, makeFile("/a")), beginEvent(0, syncOp()), beginEvent(1, makeDir("/b")), crashEvent()}
	s := fromDown(t, "three were busy", c, 2, busy)
	checkUp(t, "three were busy", s, 2, 7)
}

func TestARoundPicksInTheOrderOfNumbers(t *testing.T) {
	c := impl.Config{Lines: 12, Threads: 4, Clock: 2}
	// All want the same, and the one with the lowest number gets it, whoever began first.
	begun := []impl.Event{beginEvent(3, makeFile("/a")), beginEvent(1, makeFile("/a")), beginEvent(2, makeFile("/a"))}
	s, rounds := drained(t, c, begun)
	checkRounds(t, "three", rounds, 1)
	checkEnds(t, "three", s, [2]int64{1, 0}, [2]int64{2, impl.ErrTaken}, [2]int64{3, impl.ErrTaken})
	// The codes: three picks and a step of the daemon; the thread that is not busy is not picked.
	checkCodesBehind(t, "three", s, 3, zeros(4)...)
	s, _ = drained(t, c, append(begun, beginEvent(0, makeDir("/a"))))
	checkEnds(t, "four", s, [2]int64{0, 0}, [2]int64{1, impl.ErrTaken}, [2]int64{2, impl.ErrTaken}, [2]int64{3, impl.ErrTaken})
	checkCodesBehind(t, "four", s, 4, zeros(5)...)
	checkStateItems(t, "four", s, dirItem("/a"))
	// What one needs is made by another one: behind it, or ahead of it.
	s, _ = drained(t, c, []impl.Event{beginEvent(0, makeFile("/d/f")), beginEvent(1, makeDir("/d"))})
	checkEnds(t, "too early", s, [2]int64{0, impl.ErrNone}, [2]int64{1, 0})
	s, _ = drained(t, c, []impl.Event{beginEvent(1, makeFile("/d/f")), beginEvent(0, makeDir("/d"))})
	checkEnds(t, "in time", s, [2]int64{0, 0}, [2]int64{1, 0})
	checkStateItems(t, "in time", s, dirItem("/d"), impl.Item{Path: "/d/f"})
}

func TestTheDaemonHasAStepBehindThePicksOfARound(t *testing.T) {
	c := impl.Config{Lines: 12, Threads: 2, Clock: 2}
	begun := []impl.Event{beginEvent(1, makeFile("/a"))}
	// Ahead of the tick and just ahead of it: what is done is of the epoch ahead, though Now is one more then.
	for steps, now := range []int64{2, 2, 3, 3, 3, 3, 3, 3, 4} {
		s, rounds := drained(t, c, daemonSteps(steps), begun)
		checkRounds(t, "one round", rounds, 1)
		epoch := int64(2)
		if steps >= 3 {
			epoch = 3
		}
		checkEnded(t, "one round", s, 1, makeFile("/a"), epoch)
		if s.Now != now {
			t.Errorf("behind %d steps and a round Now is %d, want %d", steps, s.Now, now)
		}
		checkStateResult(t, "a pick and a step", impl.StateResult{State: s}, impl.StateResult{State: ran(t, c, daemonSteps(steps), begun, []impl.Event{pickEvent(1), daemonEvent()})})
	}
}

func TestARoundInWhichTheDaemonHasACode(t *testing.T) {
	c := impl.Config{Lines: 12, Threads: 3, Clock: 9999}
	s, rounds := drained(t, c, []impl.Event{beginEvent(2, syncOp()), beginEvent(0, makeFile("/a"))})
	checkRounds(t, "the last epoch", rounds, 1)
	checkCodesBehind(t, "the last epoch", s, 2, 0, 0, impl.ErrState)
	checkEnds(t, "the last epoch", s, [2]int64{0, impl.ErrState}, [2]int64{2, 0})
	// With nobody busy there is no round, and so no step of the daemon.
	s, rounds = drained(t, c)
	checkRounds(t, "nobody is busy", rounds, 0)
	checkCodesBehind(t, "nobody is busy", s, 0)
	// Up again in the last epoch nobody is busy.
	s = fromDown(t, "the last epoch", c, 2, []impl.Event{beginEvent(0, syncOp()), crashEvent()})
	checkCodesBehind(t, "the last epoch", s, 2, 0, 0)
}

// ringOf: a file with three pieces, by which the ring of the thread is full.
func ringOf(who int64, path string) []impl.Event {
	events := doing(who, makeFile(path), writeOp(path, 0, 0, 0, 0, 1), writeOp(path, 1, 0, 0, 0, 2), writeOp(path, 2, 0, 0, 0, 3))
	return append(events, pickEvent(who))
}

// fullRings: four threads, each with a full ring.
func fullRings() []impl.Event {
	return slices.Concat(ringOf(0, "/a"), ringOf(1, "/b"), ringOf(2, "/c"), ringOf(3, "/d"))
}

func TestThreadsThatEndInRoundsThatOthersOutlast(t *testing.T) {
	c := impl.Config{Lines: 41, Threads: 4, Clock: 2}
	// By room for four, three, one and no entry it takes five, four, two and one rounds.
	begun := []impl.Event{beginEvent(0, dropOp("/a")), beginEvent(1, cutOp("/b", 1)), beginEvent(2, makeFile("/e")), beginEvent(3, readOp("/d"))}
	s, rounds := drained(t, c, fullRings(), begun)
	checkRounds(t, "full rings", rounds, 5)
	checkEnds(t, "full rings", s, [2]int64{3, 0}, [2]int64{2, 0}, [2]int64{1, 0}, [2]int64{0, 0})
	// The codes of rounds of four, three, two, two and one picks, and a step of the daemon each.
	checkCodesBehind(t, "full rings", s, 40, zeros(5+4+3+3+2)...)
	// The daemon ticks in the third round.
	epochs := []int64{0, 2, 3, 3}
	for i, n := range s.Notes[len(s.Notes)-4:] {
		if n.Epoch != epochs[i] {
			t.Errorf("the end number %d is of the epoch %d, want %d", i, n.Epoch, epochs[i])
		}
	}
	want := []impl.Item{{Path: "/b", Data: []int64{0, 0, 0, 1}}, {Path: "/c", Data: []int64{0, 0, 0, 1, 0, 0, 0, 2, 0, 0, 0, 3}}, {Path: "/d", Data: []int64{0, 0, 0, 1, 0, 0, 0, 2, 0, 0, 0, 3}}, {Path: "/e"}}
	checkStateItems(t, "full rings", s, want...)
	checkClocks(t, "full rings", s, 3, 3, 3)
}

func TestAThreadThatEndsEarlyIsNotPickedAgain(t *testing.T) {
	c := impl.Config{Lines: 12, Threads: 3, Clock: 5}
	s, rounds := drained(t, c, []impl.Event{beginEvent(0, listOp("/")), beginEvent(1, syncOp()), beginEvent(2, makeFile("/a"))})
	// Of the file that was made one line is flushed in the second round of the daemon, so the sync waits a step longer.
	checkRounds(t, "two end early", rounds, 13)
	checkEnds(t, "two end early", s, [2]int64{0, 0}, [2]int64{2, 0}, [2]int64{1, 0})
	checkCodesBehind(t, "two end early", s, 3, zeros(4+12*2)...)
	checkNobodyBusy(t, "two end early", s)
}

func TestAllRingsAreFullAndAllAreDropped(t *testing.T) {
	c := impl.Config{Lines: 41, Threads: 4, Clock: 2}
	drops := []impl.Event{beginEvent(3, dropOp("/d")), beginEvent(2, dropOp("/c")), beginEvent(1, dropOp("/b")), beginEvent(0, dropOp("/a"))}
	s, rounds := drained(t, c, fullRings(), drops)
	checkRounds(t, "all are dropped", rounds, 5)
	checkEnds(t, "all are dropped", s, [2]int64{0, 0}, [2]int64{1, 0}, [2]int64{2, 0}, [2]int64{3, 0})
	checkCodesBehind(t, "all are dropped", s, 40, zeros(5*5)...)
	checkStateItems(t, "all are dropped", s)
	// A sync begun with the drops sees all of them through.
	drops[3] = beginEvent(0, syncOp())
	s, rounds = drained(t, c, fullRings(), drops)
	checkEnds(t, "three are dropped", s, [2]int64{1, 0}, [2]int64{2, 0}, [2]int64{3, 0}, [2]int64{0, 0})
	if rounds <= 12 || s.Sure < 4 || len(s.Items) != 1 {
		t.Errorf("there were %d rounds, Sure is %d, and there is %v", rounds, s.Sure, s.Items)
	}
}

func TestASyncIsDrainedOverSeveralRoundsOfTheDaemon(t *testing.T) {
	c := impl.Config{Lines: 4, Threads: 2, Clock: 5}
	begun := []impl.Event{beginEvent(0, syncOp())}
	// By the eleventh step of the daemon Sure is the aim; the pick is ahead of the step, so there is one round more.
	for steps := range 15 {
		s, rounds := drained(t, c, begun, daemonSteps(steps))
		checkRounds(t, "nothing to do", rounds, max(12-int64(steps), 1))
		checkReply(t, "nothing to do", s, syncOp(), impl.Reply{})
		checkCodesBehind(t, "nothing to do", s, 1+steps, zeros(int(2*rounds))...)
	}
	// Begun behind a tick, and ahead of Sure, it waits longer.
	for steps := range 16 {
		_, rounds := drained(t, c, daemonSteps(3), begun, daemonSteps(steps))
		checkRounds(t, "behind a tick", rounds, max(15-int64(steps), 1))
	}
	// Two of them: the second one began an epoch later.
	s, rounds := drained(t, c, begun, daemonSteps(6), []impl.Event{beginEvent(1, syncOp())})
	checkRounds(t, "two", rounds, 12)
	checkEnds(t, "two", s, [2]int64{0, 0}, [2]int64{1, 0})
	checkCodesBehind(t, "two", s, 8, zeros(6*3+6*2)...)
	// Picks of a sync among the events are no rounds.
	_, rounds = drained(t, c, begun, slices.Repeat([]impl.Event{pickEvent(0)}, 50))
	checkRounds(t, "picked in vain", rounds, 12)
}

func TestCodesOfEventsStandAheadOfThoseBehindThem(t *testing.T) {
	c := impl.Config{Lines: 4, Threads: 1, Clock: 9999}
	events := []impl.Event{daemonEvent(), beginEvent(0, syncOp()), {Kind: 7}, beginEvent(0, syncOp()), evictEvent(3), evictEvent(32)}
	got := checkDrain(t, askedWorld{c, events})
	checkCodes(t, "with codes", got.State, impl.ErrState, 0, impl.ErrForm, impl.ErrState, impl.ErrNone, impl.ErrRange, 0, impl.ErrState)
	checkRounds(t, "with codes", got.Rounds, 1)
	events = append(events, crashEvent(), pickEvent(0), mountEvent(), daemonEvent())
	got = checkDrain(t, askedWorld{c, events})
	checkCodesBehind(t, "down", got.State, 6, 0, impl.ErrState, 0, impl.ErrState, 0)
	checkRounds(t, "down", got.Rounds, 0)
}
