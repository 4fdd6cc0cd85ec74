package tests

import (
	"slices"
	"testing"

	"loop.example/g00691/impl"
)

// checkSameButCodes: the second state is the first one, but for its codes.
func checkSameButCodes(t *testing.T, what string, before impl.State, after impl.State) {
	t.Helper()
	before.Codes = after.Codes
	checkStateResult(t, what, impl.StateResult{State: after}, impl.StateResult{State: before})
}

func TestARoundOfTheDaemonWithNothingToDo(t *testing.T) {
	c := impl.Config{Lines: 4, Threads: 2, Clock: 2}
	checkSameButCodes(t, "it closes", ran(t, c), ran(t, c, daemonSteps(1)))
	checkSameButCodes(t, "it ticks", ran(t, c), ran(t, c, daemonSteps(2)))
	s := ran(t, c, daemonSteps(3))
	checkClocks(t, "it tells", s, 3, 2, 2)
	checkCells(t, "it tells", s, nil, []impl.Cell{{At: 1, Value: 3}})
	s = ran(t, c, daemonSteps(4))
	checkClocks(t, "it sees to it", s, 3, 2, 2)
	checkCells(t, "it sees to it", s, []impl.Cell{{At: 1, Value: 3}}, nil)
	s = ran(t, c, daemonSteps(5))
	checkClocks(t, "it clears", s, 3, 3, 3)
	checkCells(t, "it clears", s, nil, nil)
	checkSameButCodes(t, "it rests", s, ran(t, c, daemonSteps(6)))
	checkSameButCodes(t, "it closes again", s, ran(t, c, daemonSteps(7)))
	for rounds := range 33 {
		s := ran(t, c, daemonSteps(roundSteps*rounds))
		clock := int64(2 + rounds)
		checkClocks(t, "round by round", s, clock, clock, clock)
		if len(s.Notes) > 0 || s.Free != 3 || !s.Up {
			t.Fatalf("the daemon turned something: %+v", s)
		}
	}
}

func TestTheDaemonDoesNotGoOnAtTheLastEpoch(t *testing.T) {
	c := impl.Config{Lines: 4, Threads: 1, Clock: 9998}
	s := ranWithCodes(t, c, daemonSteps(9))
	checkCodes(t, "the last epoch", s, 0, 0, 0, 0, 0, 0, impl.ErrState, impl.ErrState, impl.ErrState)
	checkClocks(t, "the last epoch", s, 9999, 9999, 9999)
	checkCells(t, "the last epoch", s, nil, nil)
	c.Clock = 9999
	s = ranWithCodes(t, c, daemonSteps(2))
	checkCodes(t, "the last epoch at first", s, impl.ErrState, impl.ErrState)
	checkSameButCodes(t, "the last epoch at first", ran(t, c), s)
	c.Clock = 9997
	checkCodes(t, "one ahead", ranWithCodes(t, c, daemonSteps(13)), 0, 0, 0, 0, 0, 0, 0, 0, 0, 0, 0, 0, impl.ErrState)
}

func TestClosingFlushesNothingOfThisEpoch(t *testing.T) {
	c := impl.Config{Lines: 8, Threads: 2, Clock: 2}
	made := slices.Concat(doing(0, makeFile("/a")), doing(1, makeFile("/b")))
	s := ran(t, c, made)
	checkSameButCodes(t, "it closes", s, ran(t, c, made, daemonSteps(1)))
	checkSameButCodes(t, "nothing is older", s, ran(t, c, made, daemonSteps(2)))
	checkClocks(t, "it ticks right behind", ran(t, c, made, daemonSteps(3)), 3, 2, 2)
}

func TestClosingFlushesLinesOfOlderEpochsThreadByThread(t *testing.T) {
	c := impl.Config{Lines: 10, Threads: 3, Clock: 2}
	// The lines 1 and 4 are those of the thread 2, 2 of the thread 0, and 3 of the thread 1.
	made := slices.Concat(doing(2, makeFile("/a")), doing(0, makeFile("/b")), doing(1, makeFile("/c")), doing(2, makeFile("/d")))
	block := func(line int64, epoch int64) []impl.Cell {
		return cellsOfLine(line, fileBlock(line, 0, []string{"", "a", "b", "c", "d", "e"}[line], 0, epoch)...)
	}
	older := slices.Concat(throughRound(c, made), doing(0, makeFile("/e")))
	of5 := block(5, 3)
	steps := []struct {
		flights []impl.Cell
		over    []impl.Cell
	}{
		{nil, slices.Concat(block(1, 2), block(2, 2), block(3, 2), block(4, 2), of5)},
		{block(2, 2), slices.Concat(block(1, 2), block(3, 2), block(4, 2), of5)},
		{slices.Concat(block(2, 2), block(3, 2)), slices.Concat(block(1, 2), block(4, 2), of5)},
		{slices.Concat(block(2, 2), block(3, 2), block(1, 2)), slices.Concat(block(4, 2), of5)},
		{slices.Concat(block(2, 2), block(3, 2), block(1, 2), block(4, 2)), of5},
		{nil, of5},
	}
	for i, step := range steps {
		s := ran(t, c, older, daemonSteps(1+i))
		checkCells(t, "closing", s, step.flights, step.over)
		checkClocks(t, "closing", s, 3, 3, 3)
	}
	s := ran(t, c, older, daemonSteps(1+5))
	for line := int64(1); line <= 4; line++ {
		checkKeptLine(t, "fenced", s, line, fileBlock(line, 0, []string{"", "a", "b", "c", "d"}[line], 0, 2)...)
	}
	checkKeptLine(t, "of this epoch", s, 5, 0, 0, 0, 0, 0, 0, 0, 0)
	checkClocks(t, "it ticks right behind", ran(t, c, older, daemonSteps(1+6)), 4, 3, 3)
}

func TestARingWithOlderAndNewerEntriesIsFlushedUpToTheNewer(t *testing.T) {
	c := impl.Config{Lines: 10, Threads: 1, Clock: 2}
	older := slices.Concat(throughRound(c, doing(0, makeFile("/a"))), doing(0, moveOp("/a", "/b"), makeFile("/c")))
	s := ran(t, c, older, daemonSteps(1+1+1))
	checkKeptLine(t, "the older one", s, 1, fileBlock(1, 0, "a", 0, 2)...)
	over := append(cellsOfLine(2, fileBlock(1, 0, "b", 0, 3)...), cellsOfLine(3, fileBlock(2, 0, "c", 0, 3)...)...)
	checkCells(t, "the newer ones", s, nil, over)
	// They are flushed in the next round.
	s = ran(t, c, throughRound(c, older), daemonSteps(1+2))
	checkCells(t, "the next round", s, over, nil)
}

func TestWhatBeginsWhileTheDaemonIsAtWorkIsOfTheEpochThatIsNow(t *testing.T) {
	c := impl.Config{Lines: 10, Threads: 1, Clock: 2}
	for steps := range 13 {
		s := ran(t, c, daemonSteps(steps), doing(0, makeFile("/a")))
		now := int64(2)
		if steps >= 3 {
			now = 3
		}
		if steps >= 9 {
			now = 4
		}
		checkEnded(t, "made", s, 0, makeFile("/a"), now)
		checkLoaded(t, "made", s, 1, fileBlock(1, 0, "a", 0, now))
	}
	// What is made in the epoch that is closed, behind its closing, is not fenced by it.
	s := ran(t, c, daemonSteps(2), doing(0, makeFile("/a")), daemonSteps(4))
	checkCells(t, "it rests", s, nil, cellsOfLine(1, fileBlock(1, 0, "a", 0, 2)...))
	checkClocks(t, "it rests", s, 3, 3, 3)
}

func TestClearingGoesThroughTheLimbo(t *testing.T) {
	// The limbo has the line 1 with the epoch 3, and the line 2 with the epoch 4.
	c := impl.Config{Lines: 10, Threads: 1, Clock: 2}
	events := throughRound(c, doing(0, makeFile("/a"), makeFile("/b")))
	events = throughRound(c, append(events, doing(0, moveOp("/a", "/c"))...))
	events = append(events, doing(0, moveOp("/b", "/d"))...)
	checkFreeLines(t, "nothing is old enough", ran(t, c, events), 5)
	// When Sure is 5 the line 1 is old enough, and the line 2 is not: a ring entry of the epoch 3 is to be flushed ahead of it.
	s := ran(t, c, events, daemonSteps(1+2+3))
	checkClocks(t, "it clears", s, 5, 5, 5)
	checkFreeLines(t, "it clears", s, 5)
	s = ran(t, c, events, daemonSteps(1+2+3+1))
	checkCells(t, "the line 1", s, []impl.Cell{{At: 8, Value: 0}}, cellsOfLine(4, fileBlock(2, 0, "d", 0, 4)...))
	checkKeptLine(t, "the line 1", s, 1, fileBlock(1, 0, "a", 0, 2)...)
	checkFreeLines(t, "it is cleared, not free", s, 5)
	s = ran(t, c, events, daemonSteps(1+2+3+2))
	checkCells(t, "it is fenced", s, nil, cellsOfLine(4, fileBlock(2, 0, "d", 0, 4)...))
	checkKeptLine(t, "only its first word", s, 1, withRest([]int64{0, 0, 0, 0, 0, 0, 0, 0}, fileBlock(1, 0, "a", 0, 2)[1:]...)...)
	checkKeptLine(t, "the line 2 is not old enough", s, 2, fileBlock(2, 0, "b", 0, 2)...)
	checkFreeLines(t, "it is free", s, 6)
	// It rests then: the next step turns nothing, and the next but one is of the next round.
	checkSameButCodes(t, "it closes", s, ran(t, c, events, daemonSteps(1+2+3+3)))
	s = ran(t, c, throughRound(c, throughRound(c, events)))
	checkFreeLines(t, "the line 2", s, 7)
	checkKeptLine(t, "the line 2", s, 2, 0)
}

func TestClearingGoesInTheOrderOfTheLimbo(t *testing.T) {
	c := impl.Config{Lines: 12, Threads: 1, Clock: 2}
	events := throughRounds(c, doing(0, makeFile("/a"), makeFile("/b"), makeFile("/c")), 2)
	events = append(events, doing(0, moveOp("/c", "/x"), moveOp("/a", "/y"), moveOp("/b", "/z"))...)
	events = throughRound(c, events)
	// Three lines are flushed; when Sure is 6 the lines 3, 1 and 2 are cleared, one by one.
	want := []impl.Cell{{At: 24}, {At: 8}, {At: 16}}
	for many := range 4 {
		s := ran(t, c, events, daemonSteps(1+3+1+3+many))
		checkClocks(t, "it clears", s, 6, 6, 6)
		checkCells(t, "it clears", s, want[:many], nil)
		checkFreeLines(t, "all are free at once", s, 5)
	}
	s := ran(t, c, events, daemonSteps(1+3+1+3+4))
	checkCells(t, "it rests", s, nil, nil)
	checkFreeLines(t, "all are free at once", s, 8)
}

func TestWhatIsGoneGoesToTheLimboBehindTheClearing(t *testing.T) {
	c := impl.Config{Lines: 8, Threads: 1, Clock: 2}
	events := throughRounds(c, doing(0, makeFile("/a"), makeFile("/b")), 2)
	events = throughRound(c, append(events, doing(0, dropOp("/a"))...))
	// The line 1 is in the limbo, and the line 3 among those gone, both with the epoch 4: one is flushed, and Sure is 6.
	clears := append(slices.Clone(events), daemonSteps(1+1+1+3)...)
	checkClocks(t, "it clears", ran(t, c, clears), 6, 6, 6)
	checkCells(t, "it clears", ran(t, c, clears, daemonSteps(1)), []impl.Cell{{At: 8}}, nil)
	rests := append(slices.Clone(clears), daemonSteps(2)...)
	s := ran(t, c, rests)
	checkKeptLine(t, "it rests", s, 1, 0)
	checkKeptLine(t, "it rests", s, 3, goneBlock(1, 4)...)
	checkFreeLines(t, "it rests", s, 5)
	// In the next round it is the limbo's, with its own epoch, so it need not get older once more.
	clears = append(slices.Clone(rests), daemonSteps(5)...)
	checkClocks(t, "it clears", ran(t, c, clears), 7, 7, 7)
	checkCells(t, "it clears", ran(t, c, clears, daemonSteps(1)), []impl.Cell{{At: 24}}, nil)
	checkFreeLines(t, "it clears", ran(t, c, clears, daemonSteps(1)), 5)
	s = ran(t, c, clears, daemonSteps(2))
	checkKeptLine(t, "it rests", s, 3, 0)
	checkFreeLines(t, "it rests", s, 6)
	checkStateItems(t, "it rests", s, impl.Item{Path: "/b"})
}

func TestWhatIsGoneStaysAmongTheseAsLongAsItIsNotOldEnough(t *testing.T) {
	c := impl.Config{Lines: 10, Threads: 1, Clock: 2}
	events := throughRounds(c, doing(0, makeFile("/a"), makeFile("/b")), 2)
	events = throughRound(c, append(events, doing(0, dropOp("/a"))...))
	events = append(events, doing(0, dropOp("/b"))...)
	// Sure is 6, 7, 8 and 9 behind the rounds: node and gone of /a, of the epoch 4, and of /b, of the epoch 5.
	checkFreeByRounds(t, "two that are dropped", c, events, 6, 8, 9, 9)
}
