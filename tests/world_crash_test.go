package tests

import (
	"slices"
	"testing"

	"loop.example/g00691/impl"
)

func TestACellThatGoesEarly(t *testing.T) {
	c := impl.Config{Lines: 4, Threads: 1, Clock: 2}
	made := doing(0, makeFile("/a"))
	block := fileBlock(1, 0, "a", 0, 2)
	cells := cellsOfLine(1, block...)
	for at := range int64(8) {
		s := ran(t, c, made, []impl.Event{evictEvent(8 + at)})
		checkCells(t, "one goes early", s, nil, slices.Delete(slices.Clone(cells), int(at), int(at)+1))
		want := make([]int64, 8)
		want[at] = block[at]
		checkKeptLine(t, "one goes early", s, 1, want...)
		checkStateItems(t, "one goes early", s, impl.Item{Path: "/a"})
		checkFreeLines(t, "one goes early", s, 2)
		if len(s.Notes) != 2 {
			t.Errorf("there are %d notes", len(s.Notes))
		}
	}
	// The clock that is told may go early, and what is flushed, too.
	s := ran(t, c, daemonSteps(3), []impl.Event{evictEvent(1)})
	checkClocks(t, "the clock goes early", s, 3, 2, 3)
	checkCells(t, "the clock goes early", s, nil, nil)
	s = ran(t, c, daemonSteps(4), []impl.Event{evictEvent(1)})
	checkClocks(t, "the clock goes early from its flight", s, 3, 2, 3)
	checkClocks(t, "the daemon goes on", ran(t, c, daemonSteps(3), []impl.Event{evictEvent(1)}, daemonSteps(2)), 3, 3, 3)
}

func TestEachCodeOfAnEviction(t *testing.T) {
	c := impl.Config{Lines: 4, Threads: 1, Clock: 2}
	made := doing(0, makeFile("/a"))
	for at := range int64(32) {
		code := int64(impl.ErrNone)
		if at >= 8 && at < 16 {
			code = impl.OK
		}
		checkCodes(t, "a word", ranWithCodes(t, c, made, []impl.Event{evictEvent(at), evictEvent(at)}), code, impl.ErrNone)
	}
	for _, at := range []int64{-1, 32, 33, 327, 328} {
		checkCodes(t, "no word", ranWithCodes(t, c, made, []impl.Event{evictEvent(at)}), impl.ErrRange)
	}
	// While it is not up there is no cell, but a mount makes some.
	down := slices.Concat(made, []impl.Event{crashEvent(1)})
	checkCodes(t, "down", ranWithCodes(t, c, down, []impl.Event{evictEvent(8), evictEvent(32)}), impl.ErrNone, impl.ErrRange)
	checkCodes(t, "read", ranWithCodes(t, c, down, []impl.Event{mountEvent(), evictEvent(8)}), impl.ErrNone)
	s := ran(t, c, down, []impl.Event{mountEvent(), mountEvent(), evictEvent(8)})
	checkKeptLine(t, "cleared and gone early", s, 1, 0)
	checkCells(t, "cleared and gone early", s, nil, nil)
}

// checkDown: it is not up, and nothing but the device is left.
func checkDown(t *testing.T, what string, s impl.State, threads int64, words []int64) {
	t.Helper()
	want := impl.State{Device: impl.Device{Words: words}, Busy: make([]bool, threads), Codes: s.Codes, Notes: s.Notes}
	checkStateResult(t, what, impl.StateResult{State: s}, impl.StateResult{State: want})
	checkLastNote(t, what, s, impl.Note{Kind: impl.NoteCrash})
}

func TestWhatACrashLeaves(t *testing.T) {
	c := impl.Config{Lines: 4, Threads: 3, Clock: 2}
	busy := slices.Concat(doing(1, makeFile("/a")), []impl.Event{beginEvent(0, syncOp()), beginEvent(2, makeFile("/b"))})
	s := ran(t, c, busy, []impl.Event{crashEvent()})
	checkDown(t, "no fates", s, 3, emptyImage(4, 2))
	if len(s.Notes) != 5 {
		t.Errorf("there are %d notes", len(s.Notes))
	}
	for _, fates := range [][]int64{{0}, {0, 0, 0}, make([]int64, 40)} {
		checkDown(t, "all fates are 0", ran(t, c, busy, []impl.Event{crashEvent(fates...)}), 3, emptyImage(4, 2))
	}
	whole := laid(emptyImage(4, 2), 1, fileBlock(1, 0, "a", 0, 2))
	for _, many := range []int{1, 2, 7, 8, 9, 40} {
		checkDown(t, "all fates are 1", ran(t, c, busy, []impl.Event{crashEvent(slices.Repeat([]int64{1}, many)...)}), 3, whole)
	}
	// Nobody is busy behind it, also when it is up again, and nobody ends what it wanted.
	s = ranWithCodes(t, c, busy, []impl.Event{crashEvent(), mountEvent(), mountEvent(), pickEvent(0), pickEvent(2)})
	checkCodes(t, "up again", s, 0, 0, 0, impl.ErrState, impl.ErrState)
	checkLastNote(t, "up again", s, impl.Note{Kind: impl.NoteUp, Epoch: 2})
}

func TestFatesAreTakenAgainFromTheFirstOneOn(t *testing.T) {
	c := impl.Config{Lines: 6, Threads: 1, Clock: 2}
	made := doing(0, makeFile("/a"), writeOp("/a", 0, 5, 6, 7, 8))
	cells := append(cellsOfLine(1, fileBlock(1, 0, "a", 1, 2)...), cellsOfLine(2, pieceWords(1, 0, 2, 5, 6, 7, 8)...)...)
	checkCells(t, "sixteen cells", ran(t, c, made), nil, cells)
	for _, fates := range [][]int64{nil, {1}, {0}, {1, 0}, {0, 1}, {0, 0, 1}, {1, 0, 1, 1, 0}, {0, 0, 0, 0, 0, 0, 0, 0, 0, 0, 0, 0, 0, 0, 1}, {1, 1, 0, 0, 1, 1, 0, 0, 1, 1, 0, 0, 1, 1, 0, 0}, {0, 1, 0, 1, 0, 1, 0, 1, 0, 1, 0, 1, 0, 1, 0, 1, 1, 1}} {
		words := emptyImage(6, 2)
		for i, cell := range cells {
			if len(fates) > 0 && fates[i%len(fates)] == 1 {
				words[cell.At] = cell.Value
			}
		}
		checkDown(t, "some fates", ran(t, c, made, []impl.Event{crashEvent(fates...)}), 1, words)
	}
}

func TestFatesGoThroughTheFlightsAheadOfWhatIsOver(t *testing.T) {
	c := oneThread()
	// Of the line 1 there are cells of an older node in Flights, and of the newer one in Over.
	s := ran(t, c, fullRing())
	flights, over := s.Device.Flights, s.Device.Over
	if len(flights) != 8 || len(over) != 32 {
		t.Fatalf("there are %d and %d cells", len(flights), len(over))
	}
	after := func(fates []int64) impl.State { return ran(t, c, fullRing(), []impl.Event{crashEvent(fates...)}) }
	first, last := slices.Concat(slices.Repeat([]int64{1}, 8), make([]int64, 32)), slices.Concat(make([]int64, 8), slices.Repeat([]int64{1}, 32))
	checkDown(t, "the Flights alone", after(first), 1, laid(emptyImage(41, 2), 1, fileBlock(1, 0, "a", 2, 2)))
	kept := after(last)
	checkKeptLine(t, "what is over alone", kept, 1, fileBlock(1, 0, "a", 3, 2)...)
	checkKeptLine(t, "what is over alone", kept, 4, pieceWords(1, 2, 2, 0, 0, 0, 3)...)
	// Where both are kept, what was stored later stands.
	checkSameLists(t, "both", after([]int64{1}).Device, kept.Device)
}

func checkSameLists(t *testing.T, what string, a impl.Device, b impl.Device) {
	t.Helper()
	if !sameLists(a, b) {
		t.Fatalf("%s: %+v is not %+v", what, a, b)
	}
}

func TestACrashWhileItIsNotUp(t *testing.T) {
	c := impl.Config{Lines: 6, Threads: 2, Clock: 2}
	s := ran(t, c, []impl.Event{crashEvent(), crashEvent(1), crashEvent(0, 1)})
	checkDown(t, "three times", s, 2, emptyImage(6, 2))
	crash := impl.Note{Kind: impl.NoteCrash}
	if !sameNotesByRule(s.Notes, []impl.Note{crash, crash, crash}) {
		t.Errorf("the notes are %+v", s.Notes)
	}
	// A mount begins anew behind each of them.
	checkDown(t, "read and crashed", ran(t, c, []impl.Event{crashEvent(), mountEvent(), crashEvent()}), 2, emptyImage(6, 2))
	s = ran(t, c, []impl.Event{crashEvent(), mountEvent(), crashEvent(), mountEvent()})
	if s.Up {
		t.Error("the first step behind a crash is not the first one of a mount")
	}
	if s = ran(t, c, []impl.Event{crashEvent(), mountEvent(), crashEvent(), mountEvent(), mountEvent()}); !s.Up {
		t.Error("it is not up behind two steps")
	}
}

func TestACrashInEachPhaseOfTheDaemon(t *testing.T) {
	c := impl.Config{Lines: 6, Threads: 1, Clock: 2}
	// keptBy: the clock that is kept behind so many steps of the daemon, if each fate is 0, and if each is 1.
	keptBy := [][2]int64{{2, 2}, {2, 2}, {2, 2}, {2, 3}, {2, 3}, {3, 3}, {3, 3}, {3, 3}, {3, 3}, {3, 4}, {3, 4}, {4, 4}, {4, 4}}
	for steps, clocks := range keptBy {
		for fate, clock := range clocks {
			down := slices.Concat(daemonSteps(steps), []impl.Event{crashEvent(int64(fate))})
			checkDown(t, "down", ran(t, c, down), 1, emptyImage(6, clock))
			up := slices.Concat(down, mountSteps(2))
			s := ran(t, c, up)
			checkClocks(t, "up again", s, clock, clock, clock)
			checkLastNote(t, "up again", s, impl.Note{Kind: impl.NoteUp, Epoch: clock})
			// The daemon rests then, wherever it was.
			checkSameButCodes(t, "it closes", s, ran(t, c, up, daemonSteps(2)))
			checkClocks(t, "it tells", ran(t, c, up, daemonSteps(3)), clock+1, clock, clock)
			checkClocks(t, "a round later", ran(t, c, up, daemonSteps(6)), clock+1, clock+1, clock+1)
		}
	}
}

func TestRingsAndLimboAreEmptyBehindACrash(t *testing.T) {
	c := impl.Config{Lines: 12, Threads: 1, Clock: 2}
	// The ring is full, and the limbo and those gone have lines.
	events := throughRounds(c, doing(0, makeFile("/a"), makeFile("/b")), 2)
	events = append(events, doing(0, moveOp("/a", "/c"), dropOp("/b"), makeFile("/d"), makeFile("/e"), makeFile("/f"), makeFile("/g"))...)
	up := slices.Concat(events, []impl.Event{crashEvent()}, mountSteps(2))
	s := ran(t, c, up)
	checkStateItems(t, "what was sure", s, impl.Item{Path: "/a"}, impl.Item{Path: "/b"})
	checkFreeLines(t, "what was sure", s, 9)
	checkEnded(t, "the ring has room", ran(t, c, up, doing(0, makeFile("/x"))), 0, makeFile("/x"), 4)
	// Nothing is flushed and nothing cleared in the rounds behind it.
	for rounds := range 6 {
		s := ran(t, c, up, daemonSteps(roundSteps*rounds))
		checkClocks(t, "round by round", s, int64(4+rounds), int64(4+rounds), int64(4+rounds))
		checkFreeLines(t, "round by round", s, 9)
		checkCells(t, "round by round", s, nil, nil)
	}
}

func TestWhatWasClearedAndNotFencedIsNotFreeBehindACrash(t *testing.T) {
	c := impl.Config{Lines: 8, Threads: 1, Clock: 2}
	events := throughRounds(c, doing(0, makeFile("/a")), 2)
	events = throughRound(c, append(events, doing(0, moveOp("/a", "/b"))...))
	clears := append(events, daemonSteps(1+1+1+3+1)...)
	checkCells(t, "it clears", ran(t, c, clears), []impl.Cell{{At: 8}}, nil)
	// By the fate 0 the older version is dead, and is cleared once more; by the fate 1 its line is free.
	s := ran(t, c, clears, []impl.Event{crashEvent(0)}, mountSteps(2))
	checkCells(t, "dead", s, []impl.Cell{{At: 8}}, nil)
	s = ran(t, c, clears, []impl.Event{crashEvent(0)}, mountSteps(3))
	checkFreeLines(t, "dead", s, 6)
	s = ran(t, c, clears, []impl.Event{crashEvent(1)}, mountSteps(2))
	checkFreeLines(t, "free", s, 6)
	checkStateItems(t, "free", s, impl.Item{Path: "/b"})
}
