package tests

import (
	"slices"
	"testing"

	"loop.example/g00691/impl"
)

// oneThread has a single thread, and as many lines as there may be.
func oneThread() impl.Config {
	return impl.Config{Lines: 41, Threads: 1, Clock: 2}
}

// checkRefused: the mutation ends with the code, and turns nothing else.
func checkRefused(t *testing.T, what string, c impl.Config, events []impl.Event, o impl.Op, code int64) {
	t.Helper()
	before, after := ran(t, c, events), ran(t, c, events, doing(0, o))
	checkReply(t, what, after, o, impl.Reply{Code: code})
	before.Codes, before.Notes = after.Codes, after.Notes
	checkStateResult(t, what, impl.StateResult{State: after}, impl.StateResult{State: before})
}

func TestNothingIsChangedBehindTheLastEpochButTwo(t *testing.T) {
	mutations := []impl.Op{makeFile("/a"), makeDir("/a"), writeOp("/a", 0, 1, 2, 3, 4), cutOp("/a", 0), dropOp("/a"), moveOp("/a", "/b"), makeFile("/"), dropOp("/")}
	for _, clock := range []int64{9998, 9999} {
		for _, o := range mutations {
			// The model has a code of most of them, but that is asked later.
			checkRefused(t, "too late", impl.Config{Lines: 4, Threads: 1, Clock: clock}, nil, o, impl.ErrState)
		}
	}
	last := impl.Config{Lines: 4, Threads: 1, Clock: 9997}
	s := ran(t, last, doing(0, makeFile("/a")))
	checkEnded(t, "the last epoch in which something is done", s, 0, makeFile("/a"), 9997)
	checkRefused(t, "the model's code", last, nil, dropOp("/a"), impl.ErrNone)
	// Now is asked when it is picked, not when it begins.
	s = ran(t, last, []impl.Event{beginEvent(0, makeFile("/a"))}, daemonSteps(2), []impl.Event{pickEvent(0)})
	checkEnded(t, "ahead of the tick", s, 0, makeFile("/a"), 9997)
	s = ran(t, last, []impl.Event{beginEvent(0, makeFile("/a"))}, daemonSteps(3), []impl.Event{pickEvent(0)})
	checkReply(t, "behind the tick", s, makeFile("/a"), impl.Reply{Code: impl.ErrState})
	checkStateItems(t, "behind the tick", s)
}

func TestEachCodeOfTheModelIsTheReplys(t *testing.T) {
	codes := map[int64][]impl.Op{
		impl.ErrNone:  {makeFile("/none/x"), writeOp("/none", 0, 1, 2, 3, 4), cutOp("/none", 0), dropOp("/none"), moveOp("/none", "/x"), moveOp("/e", "/none/x")},
		impl.ErrForm:  {makeFile("/e/x"), writeOp("/d", 0, 1, 2, 3, 4), cutOp("/", 0), dropOp("/"), moveOp("/d", "/d/x"), moveOp("/d", "/"), moveOp("/e", "/e")},
		impl.ErrTaken: {makeFile("/"), makeDir("/d"), makeFile("/d/f"), moveOp("/e", "/d/f"), moveOp("/d/f", "/e")},
		impl.ErrState: {dropOp("/d")},
		impl.ErrRange: {writeOp("/d/f", 3, 1, 2, 3, 4), writeOp("/e", 1, 1, 2, 3, 4), cutOp("/d/f", 3), cutOp("/e", 1)},
	}
	full := impl.Config{Lines: 6, Threads: 1, Clock: 2}
	checkFreeLines(t, "all lines are taken", ran(t, full, someThings()), 0)
	for code, ops := range codes {
		for _, o := range ops {
			checkRefused(t, "some things", oneThread(), someThings(), o, code)
			// Whether there is room is asked only of what can be done.
			checkRefused(t, "no line is free", full, someThings(), o, code)
		}
	}
	deep := doing(0, makeDir("/a"), makeDir("/a/b"), makeDir("/a/b/c"), makeDir("/d"))
	checkEnded(t, "just as deep as may be", ran(t, oneThread(), deep, doing(0, moveOp("/a", "/d/a"))), 0, moveOp("/a", "/d/a"), 2)
	deep = append(deep, doing(0, makeFile("/a/b/c/d"))...)
	checkRefused(t, "too deep", oneThread(), deep, moveOp("/a", "/d/a"), impl.ErrMany)
}

func TestTooFewFreeLines(t *testing.T) {
	c := impl.Config{Lines: 4, Threads: 1, Clock: 2}
	two := doing(0, makeFile("/a"), makeDir("/b"))
	three := append(slices.Clone(two), doing(0, makeFile("/c"))...)
	checkFreeLines(t, "two are made", ran(t, c, two), 1)
	checkFreeLines(t, "three are made", ran(t, c, three), 0)
	checkRefused(t, "no line is free", c, three, makeFile("/d"), impl.ErrFull)
	checkRefused(t, "no line is free", c, three, makeDir("/b/d"), impl.ErrFull)
	checkRefused(t, "no line is free", c, three, writeOp("/a", 0, 1, 2, 3, 4), impl.ErrFull)
	// The node is of this epoch, so the piece alone takes a line.
	s := ran(t, c, two, doing(0, writeOp("/a", 0, 1, 2, 3, 4)))
	checkEnded(t, "just as many are free", s, 0, writeOp("/a", 0, 1, 2, 3, 4), 2)
	checkFreeLines(t, "just as many are free", s, 0)
	// What is of this epoch is written over, which takes no line.
	for _, o := range []impl.Op{moveOp("/a", "/x"), moveOp("/b", "/x"), dropOp("/a"), dropOp("/b"), cutOp("/a", 0)} {
		s := ran(t, c, three, doing(0, o))
		checkEnded(t, "it takes no line", s, 0, o, 2)
		checkFreeLines(t, "it takes no line", s, 0)
	}
	// Of an older epoch the same takes lines.
	older := throughRound(c, three)
	for _, o := range []impl.Op{moveOp("/a", "/x"), moveOp("/b", "/x"), dropOp("/a"), dropOp("/b"), writeOp("/a", 0, 1, 2, 3, 4)} {
		checkRefused(t, "an older epoch", c, older, o, impl.ErrFull)
	}
	s = ran(t, c, older, doing(0, cutOp("/a", 0)))
	checkEnded(t, "it changes nothing", s, 0, cutOp("/a", 0), 3)
	// A piece and the node of an older epoch take two lines, of which one is not enough.
	older = throughRound(c, two)
	checkFreeLines(t, "one is free", ran(t, c, older), 1)
	checkRefused(t, "one is free", c, older, writeOp("/a", 0, 1, 2, 3, 4), impl.ErrFull)
	checkEnded(t, "one is free", ran(t, c, older, doing(0, moveOp("/a", "/x"))), 0, moveOp("/a", "/x"), 3)
}

func TestWhatIsMadeIsStoredWordByWordInTheLowestFreeLine(t *testing.T) {
	c := impl.Config{Lines: 6, Threads: 2, Clock: 7}
	s := ran(t, c, doing(1, makeDir("/ab")))
	dir := cellsOfLine(1, dirBlock(1, 0, "ab", 7)...)
	checkCells(t, "a directory", s, nil, dir)
	checkKeptLine(t, "a directory", s, 1, 0, 0, 0, 0, 0, 0, 0, 0)
	checkFreeLines(t, "a directory", s, 4)
	checkStateItems(t, "a directory", s, dirItem("/ab"))
	checkEnded(t, "a directory", s, 1, makeDir("/ab"), 7)
	s = ran(t, c, doing(1, makeDir("/ab")), doing(0, makeFile("/ab/c")))
	checkCells(t, "a file in it", s, nil, append(dir, cellsOfLine(2, fileBlock(2, 1, "c", 0, 7)...)...))
	checkFreeLines(t, "a file in it", s, 3)
	checkStateItems(t, "a file in it", s, dirItem("/ab"), impl.Item{Path: "/ab/c"})
	checkEnded(t, "a file in it", s, 0, makeFile("/ab/c"), 7)
}

func TestTheNextUidIsOneMoreBehindEachThatIsMade(t *testing.T) {
	s := ran(t, oneThread(), doing(0, makeDir("/a"), makeFile("/a"), makeFile("/b"), dropOp("/b"), makeFile("/b"), makeFile("/none/x"), makeDir("/c")))
	checkLoaded(t, "the first one", s, 1, dirBlock(1, 0, "a", 2))
	checkLoaded(t, "the second one, which is gone", s, 2, goneBlock(2, 2))
	checkLoaded(t, "the third one", s, 3, fileBlock(3, 0, "b", 0, 2))
	checkLoaded(t, "the fourth one", s, 4, dirBlock(4, 0, "c", 2))
}

func TestAVersionOfThisEpochIsWrittenOver(t *testing.T) {
	c := impl.Config{Lines: 6, Threads: 1, Clock: 2}
	write := writeOp("/a", 0, 1, 2, 3, 4)
	s := ran(t, c, doing(0, makeFile("/a"), write))
	over := append(cellsOfLine(1, fileBlock(1, 0, "a", 1, 2)...), cellsOfLine(2, pieceWords(1, 0, 2, 1, 2, 3, 4)...)...)
	checkCells(t, "one more piece", s, nil, over)
	checkFreeLines(t, "one more piece", s, 3)
	again := writeOp("/a", 0, 9, 8, 7, 6)
	s = ran(t, c, doing(0, makeFile("/a"), write, again))
	over = append(cellsOfLine(1, fileBlock(1, 0, "a", 1, 2)...), cellsOfLine(2, pieceWords(1, 0, 2, 9, 8, 7, 6)...)...)
	checkCells(t, "the piece again", s, nil, over)
	checkFreeLines(t, "the piece again", s, 3)
	checkStateItems(t, "the piece again", s, impl.Item{Path: "/a", Data: []int64{9, 8, 7, 6}})
	s = ran(t, c, doing(0, makeFile("/a"), moveOp("/a", "/zz")))
	checkCells(t, "moved", s, nil, cellsOfLine(1, fileBlock(1, 0, "zz", 0, 2)...))
	s = ran(t, c, doing(0, makeFile("/a"), dropOp("/a")))
	checkCells(t, "dropped", s, nil, cellsOfLine(1, goneBlock(1, 2)...))
	checkFreeLines(t, "dropped", s, 4)
	checkStateItems(t, "dropped", s)
	// What was written over is in no limbo: its line is that of what there is, for ever.
	s = ran(t, c, throughRounds(c, doing(0, makeFile("/a"), write, again), 6))
	checkFreeLines(t, "six rounds later", s, 3)
	checkCells(t, "six rounds later", s, nil, nil)
	checkKeptLine(t, "six rounds later", s, 1, fileBlock(1, 0, "a", 1, 2)...)
	checkKeptLine(t, "six rounds later", s, 2, pieceWords(1, 0, 2, 9, 8, 7, 6)...)
}

// freeByRounds: how many lines are free behind each of the rounds.
func freeByRounds(t *testing.T, c impl.Config, events []impl.Event, rounds int) []int64 {
	t.Helper()
	var free []int64
	for range rounds {
		events = throughRound(c, events)
		free = append(free, ran(t, c, events).Free)
	}
	return free
}

func checkFreeByRounds(t *testing.T, what string, c impl.Config, events []impl.Event, want ...int64) {
	t.Helper()
	if got := freeByRounds(t, c, events, len(want)); !slices.Equal(got, want) {
		t.Fatalf("%s: round by round %v lines are free, want %v", what, got, want)
	}
}

func TestAVersionOfAnOlderEpochGoesToTheLimboWithNow(t *testing.T) {
	c := impl.Config{Lines: 8, Threads: 1, Clock: 2}
	older := throughRound(c, doing(0, makeFile("/a"), writeOp("/a", 0, 1, 2, 3, 4)))
	s := ran(t, c, older)
	checkClocks(t, "a round later", s, 3, 3, 3)
	checkFreeLines(t, "a round later", s, 5)
	again := append(slices.Clone(older), doing(0, writeOp("/a", 0, 9, 8, 7, 6))...)
	s = ran(t, c, again)
	checkFreeLines(t, "the piece again", s, 4)
	checkLoaded(t, "the piece as it was", s, 2, pieceWords(1, 0, 2, 1, 2, 3, 4))
	checkLoaded(t, "the piece as it is", s, 3, pieceWords(1, 0, 3, 9, 8, 7, 6))
	checkEnded(t, "the piece again", s, 0, writeOp("/a", 0, 9, 8, 7, 6), 3)
	// It is there with the epoch 3, though it is of the epoch 2: it is cleared when Sure is 5.
	checkFreeByRounds(t, "the piece again", c, again, 4, 5, 5, 5)
	moved := append(slices.Clone(older), doing(0, moveOp("/a", "/b"))...)
	s = ran(t, c, moved)
	checkLoaded(t, "the node as it was", s, 1, fileBlock(1, 0, "a", 1, 2))
	checkLoaded(t, "the node as it is", s, 3, fileBlock(1, 0, "b", 1, 3))
	checkFreeByRounds(t, "moved", c, moved, 4, 5, 5)
	more := append(slices.Clone(older), doing(0, writeOp("/a", 1, 5, 6, 7, 8))...)
	s = ran(t, c, more)
	checkLoaded(t, "the piece that is one more", s, 3, pieceWords(1, 1, 3, 5, 6, 7, 8))
	checkLoaded(t, "its node behind it", s, 4, fileBlock(1, 0, "a", 2, 3))
	checkFreeByRounds(t, "one more piece", c, more, 3, 4, 4)
	// Written once more in the epoch 3, it is written over, and nothing more goes to the limbo.
	twice := append(slices.Clone(again), doing(0, writeOp("/a", 0, 1, 1, 1, 1))...)
	checkLoaded(t, "twice", ran(t, c, twice), 3, pieceWords(1, 0, 3, 1, 1, 1, 1))
	checkFreeByRounds(t, "twice", c, twice, 4, 5, 5)
}

func TestALineThatIsFreeAgainIsTheLowestOne(t *testing.T) {
	c := impl.Config{Lines: 8, Threads: 1, Clock: 2}
	events := throughRound(c, doing(0, makeFile("/a"), makeFile("/b")))
	events = throughRounds(c, append(events, doing(0, moveOp("/a", "/c"))...), 2)
	s := ran(t, c, events, doing(0, makeFile("/d")))
	checkLoaded(t, "the line of /a as it was", s, 1, fileBlock(3, 0, "d", 0, 5))
	s = ran(t, c, events, doing(0, makeFile("/d"), makeFile("/e")))
	checkLoaded(t, "the next one", s, 4, fileBlock(4, 0, "e", 0, 5))
}

func TestWhatIsGoneIsToldUntilNothingOlderIsLeft(t *testing.T) {
	c := impl.Config{Lines: 8, Threads: 1, Clock: 2}
	older := throughRound(c, doing(0, makeFile("/a"), writeOp("/a", 0, 1, 2, 3, 4)))
	dropped := append(slices.Clone(older), doing(0, dropOp("/a"))...)
	s := ran(t, c, dropped)
	checkEnded(t, "dropped", s, 0, dropOp("/a"), 3)
	checkStateItems(t, "dropped", s)
	checkLoaded(t, "the node", s, 1, fileBlock(1, 0, "a", 1, 2))
	checkLoaded(t, "the piece", s, 2, pieceWords(1, 0, 2, 1, 2, 3, 4))
	checkLoaded(t, "that it is gone", s, 3, goneBlock(1, 3))
	checkCells(t, "dropped", s, nil, append(ran(t, c, older).Device.Over, cellsOfLine(3, goneBlock(1, 3)...)...))
	// Node and piece are free when Sure is 5; that it is gone goes to the limbo then, and is free one round later.
	checkFreeByRounds(t, "dropped", c, dropped, 4, 6, 7, 7)
	// Made and dropped in one epoch there is one line, which tells that it is gone.
	at := doing(0, makeFile("/a"), dropOp("/a"))
	checkFreeByRounds(t, "in one epoch", c, at, 6, 6, 7, 7)
}

func TestALoosePieceOfAnOlderEpochStaysAsItWasUntilItIsCleared(t *testing.T) {
	c := impl.Config{Lines: 9, Threads: 1, Clock: 2}
	older := throughRounds(c, doing(0, makeFile("/a"), writeOp("/a", 0, 1, 2, 3, 4), writeOp("/a", 1, 5, 6, 7, 8)), 2)
	checkCells(t, "two rounds later", ran(t, c, older), nil, nil)
	cut := append(slices.Clone(older), doing(0, cutOp("/a", 0))...)
	s := ran(t, c, cut)
	checkCells(t, "cut", s, nil, cellsOfLine(4, fileBlock(1, 0, "a", 0, 4)...))
	checkLoaded(t, "the first piece", s, 2, pieceWords(1, 0, 2, 1, 2, 3, 4))
	checkLoaded(t, "the second piece", s, 3, pieceWords(1, 1, 2, 5, 6, 7, 8))
	checkStateItems(t, "cut", s, impl.Item{Path: "/a"})
	checkFreeLines(t, "cut", s, 4)
	checkFreeByRounds(t, "cut", c, cut, 4, 7, 7)
	one := append(slices.Clone(older), doing(0, cutOp("/a", 1))...)
	checkStateItems(t, "cut to one", ran(t, c, one), impl.Item{Path: "/a", Data: []int64{1, 2, 3, 4}})
	checkFreeByRounds(t, "cut to one", c, one, 4, 6, 6)
	// A piece that is written again behind the cut is another version, in a line of its own.
	s = ran(t, c, cut, doing(0, writeOp("/a", 0, 9, 9, 9, 9)))
	checkLoaded(t, "written again", s, 5, pieceWords(1, 0, 4, 9, 9, 9, 9))
	checkLoaded(t, "its node", s, 4, fileBlock(1, 0, "a", 1, 4))
	checkLoaded(t, "the first piece", s, 2, pieceWords(1, 0, 2, 1, 2, 3, 4))
	dropped := append(slices.Clone(older), doing(0, dropOp("/a"))...)
	checkCells(t, "dropped", ran(t, c, dropped), nil, cellsOfLine(4, goneBlock(1, 4)...))
	checkFreeByRounds(t, "dropped", c, dropped, 4, 7, 8, 8)
}

func TestALoosePieceOfThisEpochIsNoneAnyMore(t *testing.T) {
	c := impl.Config{Lines: 9, Threads: 1, Clock: 2}
	made := doing(0, makeFile("/a"), writeOp("/a", 0, 1, 2, 3, 4))
	cut := append(slices.Clone(made), doing(0, cutOp("/a", 0))...)
	s := ran(t, c, cut)
	cells := append(cellsOfLine(1, fileBlock(1, 0, "a", 0, 2)...), cellsOfLine(2, 0, 1, 2, 3, 4, 0, 0, 0)...)
	checkCells(t, "cut", s, nil, cells)
	checkEnded(t, "cut", s, 0, cutOp("/a", 0), 2)
	// Its line is in the limbo with the epoch 2, so it is not free until Sure is 4.
	checkFreeLines(t, "cut", s, 6)
	checkFreeByRounds(t, "cut", c, cut, 6, 7, 7)
	s = ran(t, c, made, doing(0, dropOp("/a")))
	checkCells(t, "dropped", s, nil, append(cellsOfLine(1, goneBlock(1, 2)...), cells[8:]...))
	checkFreeByRounds(t, "dropped", c, append(slices.Clone(made), doing(0, dropOp("/a"))...), 6, 7, 8, 8)
	// It goes to the ring as well: with the three lines of what was made and the node that was cut, five are to be flushed.
	later := throughRound(c, cut)
	checkCells(t, "five are flushed", ran(t, c, later, daemonSteps(1+5)), cells, nil)
	checkCells(t, "it is fenced", ran(t, c, later, daemonSteps(1+6)), nil, nil)
	checkKeptLine(t, "it is fenced", ran(t, c, later, daemonSteps(1+6)), 2, 0, 1, 2, 3, 4)
}

// fullRing: a file with three pieces, by which the ring of the thread 0 has six entries, the lines 2, 1, 3, 1, 4 and 1.
func fullRing() []impl.Event {
	events := doing(0, makeFile("/a"), writeOp("/a", 0, 0, 0, 0, 1), writeOp("/a", 1, 0, 0, 0, 2), writeOp("/a", 2, 0, 0, 0, 3))
	return append(events, pickEvent(0))
}

func TestAFullRing(t *testing.T) {
	c := oneThread()
	s := ran(t, c, fullRing())
	checkEnded(t, "six entries", s, 0, writeOp("/a", 2, 0, 0, 0, 3), 2)
	pieces := append(append(cellsOfLine(2, pieceWords(1, 0, 2, 0, 0, 0, 1)...), cellsOfLine(3, pieceWords(1, 1, 2, 0, 0, 0, 2)...)...), cellsOfLine(4, pieceWords(1, 2, 2, 0, 0, 0, 3)...)...)
	node := cellsOfLine(1, fileBlock(1, 0, "a", 3, 2)...)
	// The oldest entry was that of the file that was made: its line was flushed with the node as it was then.
	checkCells(t, "six entries", s, cellsOfLine(1, fileBlock(1, 0, "a", 2, 2)...), append(slices.Clone(pieces), node...))
	// One change needs room for one: the line of the first piece is flushed.
	begun := append(fullRing(), beginEvent(0, makeFile("/b")))
	s = ran(t, c, begun, []impl.Event{pickEvent(0)})
	flights := append(cellsOfLine(1, fileBlock(1, 0, "a", 2, 2)...), pieces[:8]...)
	checkCells(t, "the oldest entry is flushed", s, flights, append(slices.Clone(pieces[8:]), node...))
	checkLastNote(t, "the thread is busy still", s, impl.Note{Kind: impl.NoteBegin, Epoch: 2, Op: makeFile("/b")})
	if !s.Busy[0] || s.Free != 36 || len(s.Items) != 1 {
		t.Errorf("busy are %v, %d lines are free, and there is %v", s.Busy, s.Free, s.Items)
	}
	s = ran(t, c, begun, []impl.Event{pickEvent(0), pickEvent(0)})
	checkEnded(t, "there is room", s, 0, makeFile("/b"), 2)
	checkCells(t, "there is room", s, flights, append(append(slices.Clone(pieces[8:]), node...), cellsOfLine(5, fileBlock(2, 0, "b", 0, 2)...)...))
}

func TestAFullRingIsAskedByHowManyChangesThereAre(t *testing.T) {
	c := oneThread()
	// picks: a pick for each entry that there is no room for, and one by which it is done.
	picks := map[int]impl.Op{1: cutOp("/a", 3), 2: moveOp("/a", "/b"), 3: cutOp("/a", 2), 4: cutOp("/a", 1), 5: cutOp("/a", 0)}
	for many, o := range picks {
		begun := append(fullRing(), beginEvent(0, o))
		for picked := range many {
			s := ran(t, c, begun, slices.Repeat([]impl.Event{pickEvent(0)}, picked))
			if !s.Busy[0] {
				t.Errorf("%+v has ended behind %d picks", o, picked)
			}
		}
		checkEnded(t, "there is room", ran(t, c, begun, slices.Repeat([]impl.Event{pickEvent(0)}, many)), 0, o, 2)
	}
	// Pieces of an older epoch go to no ring, but each of them needs its room.
	s := ran(t, c, throughRound(c, fullRing()), []impl.Event{beginEvent(0, dropOp("/a"))}, slices.Repeat([]impl.Event{pickEvent(0)}, 4))
	checkLastNote(t, "four changes", s, impl.Note{Kind: impl.NoteBegin, Epoch: 3, Op: dropOp("/a")})
	s = ran(t, c, throughRound(c, fullRing()), []impl.Event{beginEvent(0, dropOp("/a"))}, slices.Repeat([]impl.Event{pickEvent(0)}, 5))
	checkEnded(t, "four changes", s, 0, dropOp("/a"), 3)
}

func TestARingThatTheDaemonHasEmptiedHasRoom(t *testing.T) {
	c := oneThread()
	begun := slices.Concat(throughRounds(c, fullRing(), 2), []impl.Event{beginEvent(0, dropOp("/a"))})
	checkEnded(t, "two rounds later", ran(t, c, begun, []impl.Event{pickEvent(0)}), 0, dropOp("/a"), 4)
	// Entries of Now itself are not flushed by the daemon.
	begun = slices.Concat(throughRound(c, fullRing()), []impl.Event{beginEvent(0, makeFile("/b"))})
	if s := ran(t, c, begun, []impl.Event{pickEvent(0)}); !s.Busy[0] {
		t.Error("one round later the ring has room")
	}
}

func TestEachThreadHasARingOfItsOwn(t *testing.T) {
	c := impl.Config{Lines: 41, Threads: 2, Clock: 2}
	checkEnded(t, "the other thread", ran(t, c, fullRing(), doing(1, makeFile("/b"))), 1, makeFile("/b"), 2)
	if s := ran(t, c, fullRing(), doing(0, makeFile("/b"))); !s.Busy[0] {
		t.Error("the thread whose ring is full has ended")
	}
}

func TestAMutationThatChangesNothingIsDone(t *testing.T) {
	s := ran(t, oneThread(), fullRing(), doing(0, cutOp("/a", 3)))
	before := ran(t, oneThread(), fullRing())
	checkEnded(t, "nothing is changed", s, 0, cutOp("/a", 3), 2)
	before.Codes, before.Notes = s.Codes, s.Notes
	checkStateResult(t, "nothing is changed", impl.StateResult{State: s}, impl.StateResult{State: before})
}

func TestAMutationIsAskedAgainByEachPick(t *testing.T) {
	c := impl.Config{Lines: 41, Threads: 2, Clock: 2}
	begun := append(fullRing(), beginEvent(0, makeFile("/b")), pickEvent(0))
	s := ran(t, c, begun, doing(1, makeDir("/b")), []impl.Event{pickEvent(0)})
	checkReply(t, "it is taken meanwhile", s, makeFile("/b"), impl.Reply{Code: impl.ErrTaken})
	// The last line is taken by the other thread.
	c.Lines = 6
	s = ran(t, c, begun, doing(1, makeDir("/c")), []impl.Event{pickEvent(0)})
	checkReply(t, "no line is free any more", s, makeFile("/b"), impl.Reply{Code: impl.ErrFull})
	// It is done in the epoch in which it is picked last.
	c.Lines = 41
	s = ran(t, c, throughRound(c, begun), []impl.Event{pickEvent(0)})
	checkEnded(t, "an epoch later", s, 0, makeFile("/b"), 3)
}
