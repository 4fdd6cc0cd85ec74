package tests

import (
	"slices"
	"testing"

	"loop.example/g00691/impl"
)

// checkNotUp: of what is told only while it is up, nothing is.
func checkNotUp(t *testing.T, what string, s impl.State) {
	t.Helper()
	if s.Up || s.Now != 0 || s.Sure != 0 || s.Free != 0 || len(s.Items) != 0 || slices.Contains(s.Busy, true) {
		t.Fatalf("%s: it is up, or tells what it tells only then: %+v", what, s)
	}
}

func checkUp(t *testing.T, what string, s impl.State, clock int64, free int64, items ...impl.Item) {
	t.Helper()
	if !s.Up {
		t.Fatalf("%s: it is not up", what)
	}
	checkClocks(t, what, s, clock, clock, clock)
	checkFreeLines(t, what, s, free)
	checkStateItems(t, what, s, items...)
	checkLastNote(t, what, s, impl.Note{Kind: impl.NoteUp, Epoch: clock})
	checkCells(t, what, s, nil, nil)
}

func TestAMountWithNothingToClear(t *testing.T) {
	c := impl.Config{Lines: 9, Threads: 2, Clock: 5}
	things := []impl.Event{crashEvent()}
	s := ran(t, c, things, mountSteps(1))
	checkNotUp(t, "read", s)
	checkDown(t, "read", s, 2, emptyImage(9, 5))
	checkUp(t, "two steps", ran(t, c, things, mountSteps(2)), 5, 8)
	// What is sure is there again, from its lines on.
	sure := append(throughRounds(c, someThings(), 2), crashEvent())
	before := ran(t, c, sure)
	checkNotUp(t, "down", before)
	checkNotUp(t, "read", ran(t, c, sure, mountSteps(1)))
	s = ran(t, c, sure, mountSteps(2))
	checkUp(t, "two steps", s, 7, 3, someThingsItems()...)
	checkSameLists(t, "the device", s.Device, before.Device)
	checkCodes(t, "it is up", ranWithCodes(t, c, sure, mountSteps(3)), 0, 0, impl.ErrState)
}

func TestAMountClearsLinesThatAreDeadRising(t *testing.T) {
	c := impl.Config{Lines: 8, Threads: 1, Clock: 2}
	down := slices.Concat(doing(0, makeFile("/a"), writeOp("/a", 0, 1, 2, 3, 4), makeDir("/b")), []impl.Event{crashEvent(1)})
	words := laid(laid(laid(emptyImage(8, 2), 1, fileBlock(1, 0, "a", 1, 2)), 2, pieceWords(1, 0, 2, 1, 2, 3, 4)), 3, dirBlock(2, 0, "b", 2))
	checkDown(t, "down", ran(t, c, down), 1, words)
	flights := [][]impl.Cell{nil, {{At: 8}}, {{At: 8}, {At: 16}}, {{At: 8}, {At: 16}, {At: 24}}}
	for i, cells := range flights {
		s := ran(t, c, down, mountSteps(1+i))
		checkNotUp(t, "step by step", s)
		checkCells(t, "step by step", s, cells, nil)
		checkSameLists(t, "step by step", impl.Device{Words: s.Device.Words}, impl.Device{Words: words})
	}
	s := ran(t, c, down, mountSteps(5))
	checkUp(t, "up", s, 2, 7)
	for line := int64(1); line <= 3; line++ {
		checkKeptLine(t, "only the first word", s, line, withRest([]int64{0, 0, 0, 0, 0, 0, 0, 0}, words[8*line+1:8*line+8]...)...)
	}
}

// goneAndOlder: the line 1 has the node of /a, and the line 3 tells that it is gone, both sure by the clock 6; the line 2 has that of /b, and 4 one that is not sure.
func goneAndOlder(c impl.Config) []impl.Event {
	events := throughRounds(c, doing(0, makeFile("/a"), makeFile("/b")), 2)
	events = throughRound(c, append(events, doing(0, dropOp("/a"))...))
	events = append(events, daemonSteps(1+1+1+3)...)
	return append(events, doing(0, makeDir("/c"))...)
}

func TestAMountClearsWhatIsGoneAndSureLater(t *testing.T) {
	c := impl.Config{Lines: 8, Threads: 1, Clock: 2}
	down := append(goneAndOlder(c), crashEvent(1))
	s := ran(t, c, down)
	checkKeptLine(t, "the node", s, 1, fileBlock(1, 0, "a", 0, 2)...)
	checkKeptLine(t, "that it is gone", s, 3, goneBlock(1, 4)...)
	checkKeptLine(t, "what is not sure", s, 4, dirBlock(3, 0, "c", 6)...)
	steps := []struct {
		what    string
		flights []impl.Cell
		kept    []int64
	}{
		{"read", nil, lines(1, 2, 3, 4)},
		{"the node", []impl.Cell{{At: 8}}, lines(1, 2, 3, 4)},
		{"what is not sure", []impl.Cell{{At: 8}, {At: 32}}, lines(1, 2, 3, 4)},
		{"the first fence", nil, lines(2, 3)},
		{"that it is gone", []impl.Cell{{At: 24}}, lines(2, 3)},
	}
	for i, step := range steps {
		s := ran(t, c, down, mountSteps(1+i))
		checkNotUp(t, step.what, s)
		checkCells(t, step.what, s, step.flights, nil)
		for line := int64(1); line <= 4; line++ {
			if isKept := s.Device.Words[8*line] != 0; isKept != slices.Contains(step.kept, line) {
				t.Errorf("%s: of the line %d is kept: %v", step.what, line, isKept)
			}
		}
	}
	s = ran(t, c, down, mountSteps(6))
	checkUp(t, "the second fence", s, 6, 6, impl.Item{Path: "/b"})
	checkKeptLine(t, "the second fence", s, 3, 0)
}

func TestAMountOfWhatIsGoneAlone(t *testing.T) {
	c := impl.Config{Lines: 8, Threads: 1, Clock: 2}
	// By one more step the line of the node is cleared, by the next one that is fenced.
	down := slices.Concat(throughRounds(c, doing(0, makeFile("/a")), 2), doing(0, dropOp("/a")))
	down = append(throughRounds(c, down, 2), crashEvent())
	checkKeptLine(t, "that it is gone", ran(t, c, down), 2, goneBlock(1, 4)...)
	checkKeptLine(t, "the node", ran(t, c, down), 1, 0)
	// Nothing is to be cleared first, so the second step is a fence already.
	s := ran(t, c, down, mountSteps(2))
	checkNotUp(t, "the first fence", s)
	checkCells(t, "the first fence", s, nil, nil)
	checkCells(t, "that it is gone", ran(t, c, down, mountSteps(3)), []impl.Cell{{At: 16}}, nil)
	checkUp(t, "the second fence", ran(t, c, down, mountSteps(4)), 6, 7)
}

func TestAMountClearsWhatIsGoneAndNotSureWithAllElse(t *testing.T) {
	c := impl.Config{Lines: 8, Threads: 1, Clock: 2}
	events := throughRounds(c, doing(0, makeFile("/a")), 2)
	down := slices.Concat(events, doing(0, dropOp("/a"), makeFile("/b")), []impl.Event{crashEvent(1)})
	checkKeptLine(t, "that it is gone", ran(t, c, down), 2, goneBlock(1, 4)...)
	checkCells(t, "cleared", ran(t, c, down, mountSteps(3)), []impl.Cell{{At: 16}, {At: 24}}, nil)
	checkUp(t, "one fence", ran(t, c, down, mountSteps(4)), 4, 6, impl.Item{Path: "/a"})
	// One epoch later it is not sure either, by the next clock it is.
	older := throughRound(c, slices.Concat(events, doing(0, dropOp("/a"))))
	checkUp(t, "not sure", ran(t, c, older, []impl.Event{crashEvent(1)}, mountSteps(3)), 5, 6, impl.Item{Path: "/a"})
	sure := append(slices.Clone(older), daemonSteps(1+1+1+1)...)
	checkUp(t, "sure by a clock that went early", ran(t, c, sure, []impl.Event{crashEvent(1)}, mountSteps(5)), 6, 7)
	checkUp(t, "not sure without it", ran(t, c, sure, []impl.Event{crashEvent(0)}, mountSteps(3)), 5, 6, impl.Item{Path: "/a"})
}

func TestSeveralThatAreGoneAreClearedLaterRising(t *testing.T) {
	c := impl.Config{Lines: 12, Threads: 1, Clock: 2}
	events := throughRounds(c, doing(0, makeFile("/a"), makeFile("/b"), makeFile("/c")), 2)
	events = append(events, doing(0, dropOp("/c"), dropOp("/a"), dropOp("/b"))...)
	events = append(throughRound(c, events), daemonSteps(1+3+1+3)...)
	down := append(events, crashEvent())
	checkClocks(t, "it clears", ran(t, c, events), 6, 6, 6)
	checkCells(t, "the nodes", ran(t, c, down, mountSteps(4)), []impl.Cell{{At: 8}, {At: 16}, {At: 24}}, nil)
	checkCells(t, "the first fence", ran(t, c, down, mountSteps(5)), nil, nil)
	checkCells(t, "those gone", ran(t, c, down, mountSteps(8)), []impl.Cell{{At: 32}, {At: 40}, {At: 48}}, nil)
	checkNotUp(t, "those gone", ran(t, c, down, mountSteps(8)))
	checkUp(t, "the second fence", ran(t, c, down, mountSteps(9)), 6, 11)
}

func TestACrashBetweenTwoStepsOfAMount(t *testing.T) {
	c := impl.Config{Lines: 8, Threads: 1, Clock: 2}
	down := append(goneAndOlder(c), crashEvent(1))
	// left: how many steps it takes behind a crash behind so many steps, if each fate is 0, and if each is 1.
	left := [][2]int{{6, 6}, {6, 6}, {6, 5}, {6, 4}, {4, 4}, {4, 2}}
	for steps, many := range left {
		for fate, more := range many {
			again := slices.Concat(down, mountSteps(steps), []impl.Event{crashEvent(int64(fate))})
			s := ran(t, c, again)
			checkNotUp(t, "crashed again", s)
			checkLastNote(t, "crashed again", s, impl.Note{Kind: impl.NoteCrash})
			checkNotUp(t, "one step fewer", ran(t, c, again, mountSteps(more-1)))
			checkUp(t, "up", ran(t, c, again, mountSteps(more)), 6, 6, impl.Item{Path: "/b"})
		}
	}
}

func TestTheClockThatACrashLeavesIsNow(t *testing.T) {
	c := impl.Config{Lines: 8, Threads: 1, Clock: 2}
	ticked := slices.Concat(doing(0, makeFile("/a")), daemonSteps(3))
	checkClocks(t, "ticked", ran(t, c, ticked), 3, 2, 2)
	checkUp(t, "lost", ran(t, c, ticked, []impl.Event{crashEvent(), mountEvent(), mountEvent()}), 2, 7)
	checkUp(t, "gone early", ran(t, c, ticked, []impl.Event{evictEvent(1), crashEvent(), mountEvent(), mountEvent()}), 3, 7)
	last := impl.Config{Lines: 8, Threads: 1, Clock: 9999}
	s := ran(t, last, []impl.Event{crashEvent(), mountEvent(), mountEvent()})
	checkUp(t, "the last epoch", s, 9999, 7)
}

func TestTheNextUidBehindACrash(t *testing.T) {
	c := impl.Config{Lines: 10, Threads: 1, Clock: 2}
	sure := throughRounds(c, doing(0, makeFile("/a"), makeFile("/b")), 2)
	three := append(slices.Clone(sure), doing(0, makeFile("/c"), makeFile("/d"))...)
	up := func(mounts int, fates ...int64) []impl.Event {
		return slices.Concat(three, []impl.Event{crashEvent(fates...)}, mountSteps(mounts), doing(0, makeDir("/x")))
	}
	// Nothing was kept of the two that were not sure, so their Uids are given once more.
	s := ran(t, c, up(2))
	checkLoaded(t, "lost", s, 3, dirBlock(3, 0, "x", 4))
	checkLoaded(t, "lost, the next one", ran(t, c, up(2), doing(0, makeFile("/y"))), 4, fileBlock(4, 0, "y", 0, 4))
	// The Words behind the crash tell of Uids of which nothing is left when it is up.
	s = ran(t, c, up(4, 1))
	checkLoaded(t, "kept", s, 3, dirBlock(5, 0, "x", 4))
	// The head of the second one alone was kept.
	s = ran(t, c, up(3, 0, 0, 0, 0, 0, 0, 0, 0, 1, 0, 0, 0, 0, 0, 0, 0))
	checkLoaded(t, "its head alone", s, 3, dirBlock(5, 0, "x", 4))
	// That of the first one alone was kept.
	s = ran(t, c, up(3, 1, 0, 0, 0, 0, 0, 0, 0, 0, 0, 0, 0, 0, 0, 0, 0))
	checkLoaded(t, "its head alone", s, 3, dirBlock(4, 0, "x", 4))
	// By another crash behind the mount the Uids are not told any more.
	twice := slices.Concat(three, []impl.Event{crashEvent(1)}, mountSteps(4), []impl.Event{crashEvent()}, mountSteps(2), doing(0, makeDir("/x")))
	checkLoaded(t, "twice", ran(t, c, twice), 3, dirBlock(3, 0, "x", 4))
	empty := slices.Concat([]impl.Event{crashEvent()}, mountSteps(2), doing(0, makeDir("/x")))
	checkLoaded(t, "empty", ran(t, c, empty), 1, dirBlock(1, 0, "x", 2))
}

func TestTheLinesThatAreFreeBehindACrash(t *testing.T) {
	c := impl.Config{Lines: 6, Threads: 1, Clock: 2}
	// The lines 2 and 3 are sure, 1 was that of a version that is free again.
	events := throughRound(c, doing(0, makeFile("/a"), makeFile("/b")))
	events = throughRounds(c, append(events, doing(0, moveOp("/a", "/c"))...), 2)
	up := slices.Concat(events, []impl.Event{crashEvent()}, mountSteps(2))
	checkUp(t, "up", ran(t, c, up), 5, 3, impl.Item{Path: "/b"}, impl.Item{Path: "/c"})
	s := ran(t, c, up, doing(0, makeFile("/x"), makeFile("/y"), makeFile("/z"), makeFile("/full")))
	checkLoaded(t, "the first free line", s, 1, fileBlock(3, 0, "x", 0, 5))
	checkLoaded(t, "the second free line", s, 4, fileBlock(4, 0, "y", 0, 5))
	checkLoaded(t, "the third free line", s, 5, fileBlock(5, 0, "z", 0, 5))
	checkReply(t, "no line is free", s, makeFile("/full"), impl.Reply{Code: impl.ErrFull})
}

func TestVersionsBehindACrashHaveTheirEpochs(t *testing.T) {
	c := impl.Config{Lines: 10, Threads: 1, Clock: 2}
	up := slices.Concat(throughRounds(c, doing(0, makeFile("/a"), writeOp("/a", 0, 1, 2, 3, 4)), 2), []impl.Event{crashEvent()}, mountSteps(2))
	// They are of the epoch 2, and Now is 4: what is changed goes beside them, and they go to the limbo.
	cut := append(slices.Clone(up), doing(0, cutOp("/a", 0))...)
	s := ran(t, c, cut)
	checkCells(t, "cut", s, nil, cellsOfLine(3, fileBlock(1, 0, "a", 0, 4)...))
	checkFreeByRounds(t, "cut", c, cut, 6, 8, 8)
	checkFreeByRounds(t, "dropped", c, append(slices.Clone(up), doing(0, dropOp("/a"))...), 6, 8, 9, 9)
}
