package tests

import (
	"math"
	"slices"
	"testing"

	"loop.example/g00691/impl"
)

func TestWrongNumbersOfLinesToFormat(t *testing.T) {
	for _, many := range []int64{math.MinInt64, math.MinInt64 + 1, -41, -2, -1, 0, 1, 42, 43, 82, 1 << 32, math.MaxInt64 - 1, math.MaxInt64} {
		checkActs(t, many, impl.FormatActs(many), impl.ActsResult{Code: impl.ErrMany})
	}
}

// checkBehindTheClock: all that reads line by line has just this code.
func checkBehindTheClock(t *testing.T, words []int64, code int64) {
	t.Helper()
	checkVersions(t, words, impl.VersionsResult{Code: code})
	checkLive(t, words, impl.LiveResult{Code: code})
	checkFree(t, words, impl.IntsResult{Code: code})
	checkNext(t, words, impl.IntResult{Code: code})
}

func checkNoClock(t *testing.T, words []int64, code int64) {
	t.Helper()
	checkClock(t, words, impl.IntResult{Code: code})
	checkBehindTheClock(t, words, code)
}

func TestWordsThatAreNotSoManyWholeLines(t *testing.T) {
	whole := emptyImage(60, 5)
	for many := range len(whole) {
		if many%8 == 0 && many >= 16 && many <= 328 {
			checkClock(t, whole[:many], impl.IntResult{Value: 5})
			checkTold(t, "whole lines", whole[:many], told{})
			continue
		}
		checkNoClock(t, whole[:many], impl.ErrMany)
		// How many there are is asked ahead of what they are.
		checkNoClock(t, slices.Repeat([]int64{-1}, many), impl.ErrMany)
	}
	checkNoClock(t, nil, impl.ErrMany)
	checkNoClock(t, []int64{}, impl.ErrMany)
	checkNoClock(t, emptyImage(100000, 5), impl.ErrMany)
}

func TestANumberThatIsNoWord(t *testing.T) {
	words := imageOf(5, dirBlock(1, 0, "a", 3), goneBlock(2, 4), fileBlock(3, 0, "b", 1, 1), pieceBlock(3, 0, 2))
	checkTold(t, "words", words, told{nodes: lines(1, 3), datas: lines(4), dead: lines(2)})
	for place := range words {
		for _, n := range []int64{math.MinInt64, -1, noWord, noWord + 1, math.MaxInt64} {
			other := slices.Clone(words)
			other[place] = n
			checkNoClock(t, other, impl.ErrRange)
			// Whatever the other words are: each is asked ahead of Magic, the clock and all lines.
			for _, worse := range []int64{0, 1, 8} {
				if place != int(worse) {
					wrong := slices.Clone(other)
					wrong[worse] = 1
					checkNoClock(t, wrong, impl.ErrRange)
				}
			}
		}
	}
}

func TestTheLeastAndTheGreatestWordBesideTheHeadsAreWords(t *testing.T) {
	for _, n := range []int64{0, noWord - 1} {
		words := imageOf(5, []int64{0, n, n, n, n, n, n, n}, withRest(goneBlock(2, 4), n, n, n, n, n, n, n))
		for place := 2; place < 8; place++ {
			words[place] = n
		}
		checkTold(t, "words that tell nothing", words, told{dead: lines(2)})
		checkFree(t, words, impl.IntsResult{List: lines(1, 3, 4)})
	}
}

func TestAFirstWordThatIsNotMagic(t *testing.T) {
	for _, first := range []int64{0, 1, 2, 32017, 691691690, 691691692, noWord - 1} {
		words := imageOf(5, dirBlock(1, 0, "a", 3))
		words[0] = first
		checkNoClock(t, words, impl.ErrState)
		// Magic is asked ahead of the clock, and of the lines.
		words[1] = 10000
		checkNoClock(t, words, impl.ErrState)
		words[8] = 1
		checkNoClock(t, words, impl.ErrState)
	}
}

func TestWrongClocks(t *testing.T) {
	for _, clock := range []int64{0, 1, 10000, 10001, 691691691, noWord - 1} {
		checkNoClock(t, imageOf(clock, dirBlock(1, 0, "a", 3)), impl.ErrRange)
		// The clock is asked ahead of the lines.
		checkNoClock(t, imageOf(clock, []int64{1, 0, 0, 0, 0, 0, 0, 0}), impl.ErrRange)
		checkNoClock(t, imageOf(clock, withRest(goneBlock(1, 1), 1)), impl.ErrRange)
	}
	for _, clock := range []int64{2, 3, 9998, 9999} {
		checkClock(t, imageOf(clock), impl.IntResult{Value: clock})
		checkTold(t, "a right clock", imageOf(clock), told{})
	}
}

func TestTheClockIsToldWhateverTheLinesAre(t *testing.T) {
	words := imageOf(5, []int64{1, 1, 1, 1, 1, 1, 1, 1}, withRest(goneBlock(1, 1), 1))
	checkClock(t, words, impl.IntResult{Value: 5})
}

// notHeads are words, but no HeadWords.
func notHeads() []int64 {
	return []int64{1, 2, 3, 4, 16, 17, 15999, 16000, 16001, 16016, 16021, 16023, greatestHeadWord + 1, 160000017, 691691691, noWord - 1}
}

func TestALineWhoseFirstWordIsNoHead(t *testing.T) {
	for _, first := range notHeads() {
		wrong := []int64{first, 1, 0, 1, 0, 0, 0, 0}
		for _, words := range [][]int64{imageOf(5, wrong), imageOf(9999, wrong), imageOf(2, nil, nil, wrong), imageOf(5, dirBlock(1, 0, "a", 3), wrong, wrong)} {
			checkClock(t, words, impl.IntResult{Value: words[1]})
			checkBehindTheClock(t, words, impl.ErrForm)
			last := slices.Clone(words)
			last[8] = 0
			last[len(last)-8] = first
			checkBehindTheClock(t, last, impl.ErrForm)
		}
	}
}

// unreadable: blocks that are sure by the clock 5 and of which ReadBlock has a code.
func unreadable() map[string][]int64 {
	return map[string][]int64{
		"a node of no kind":        withRest(dirBlock(1, 0, "a", 3), 0),
		"a node without a name":    withRest(dirBlock(1, 0, "a", 3), 1, 0, 0),
		"a directory with a Size":  withRest(dirBlock(1, 0, "a", 3), 1, 0, 1, 1),
		"a file that is too great": withRest(fileBlock(1, 0, "a", 3, 3), 2, 0, 1, 5),
		"its own parent":           withRest(fileBlock(7, 0, "a", 3, 1), 2, 7),
		"a number too great":       withRest(pieceBlock(1, 0, 3), 10000),
		"a word behind a piece":    withRest(pieceBlock(1, 0, 3), 1, 2, 3, 4, 1),
		"a word behind a gone one": withRest(goneBlock(1, 1), 0, 0, 0, 0, 0, 0, 1),
	}
}

func TestASureLineThatCannotBeRead(t *testing.T) {
	for _, block := range unreadable() {
		for _, words := range [][]int64{imageOf(5, block), imageOf(5, nil, block), imageOf(5, dirBlock(9, 0, "c", 3), goneBlock(2, 5), block)} {
			checkClock(t, words, impl.IntResult{Value: 5})
			checkBehindTheClock(t, words, impl.ErrText)
		}
	}
}

func TestTheCodeOfTheFirstWrongLineIsTheAnswer(t *testing.T) {
	for _, block := range unreadable() {
		for _, first := range notHeads() {
			noHead := []int64{first, 0, 0, 0, 0, 0, 0, 0}
			checkBehindTheClock(t, imageOf(5, block, noHead), impl.ErrText)
			checkBehindTheClock(t, imageOf(5, noHead, block), impl.ErrForm)
			checkBehindTheClock(t, imageOf(5, nil, goneBlock(3, 4), block, nil, noHead), impl.ErrText)
			checkBehindTheClock(t, imageOf(5, nil, goneBlock(3, 4), noHead, nil, block), impl.ErrForm)
			checkBehindTheClock(t, imageOf(5, block, noHead, block), impl.ErrText)
		}
	}
}

func TestTheLinesAreAskedAheadOfWhatIsTakenAndOfTheTree(t *testing.T) {
	lost := dirBlock(1, 500, "a", 3)
	checkBehindTheClock(t, imageOf(5, lost, lost, []int64{1}), impl.ErrForm)
	checkBehindTheClock(t, imageOf(5, lost, lost, withRest(goneBlock(2, 3), 1)), impl.ErrText)
	checkLiveCode(t, "taken and lost", imageOf(5, lost, lost), impl.ErrTaken)
	checkLiveCode(t, "lost, and others are taken", imageOf(5, lost, goneBlock(7, 1), goneBlock(7, 1)), impl.ErrTaken)
	checkLiveCode(t, "a missing piece, and others are taken", imageOf(5, fileBlock(1, 0, "a", 1, 1), pieceBlock(9, 0, 1), pieceBlock(9, 0, 1)), impl.ErrTaken)
	checkLiveCode(t, "lost", imageOf(5, lost, goneBlock(7, 1), goneBlock(7, 2)), impl.ErrState)
}

func TestThereIsNoUidBehindTheGreatestOne(t *testing.T) {
	for _, epoch := range []int64{1, 3, 4, 5, 9999} {
		for _, block := range [][]int64{dirBlock(999, 0, "a", epoch), fileBlock(999, 0, "a", 0, epoch), pieceBlock(999, 3, epoch), goneBlock(999, epoch)} {
			for _, words := range [][]int64{imageOf(5, block), imageOf(5, goneBlock(1, 1), block, goneBlock(2, 1))} {
				checkNext(t, words, impl.IntResult{Code: impl.ErrFull})
				checkLiveCode(t, "the greatest Uid", words, impl.OK)
			}
		}
	}
	checkNext(t, imageOf(5, dirBlock(998, 999, "a", 1)), impl.IntResult{Value: 999})
}

func TestOthersThanLiveOfDoNotAskTheTree(t *testing.T) {
	for _, words := range [][]int64{imageOf(5, goneBlock(4, 3), goneBlock(4, 3)), imageOf(5, dirBlock(4, 3, "a", 3), fileBlock(2, 0, "a", 2, 3))} {
		if impl.LiveOf(words).Code == impl.OK {
			t.Fatalf("LiveOf of %v has no code", words)
		}
		if got := linesOf(impl.VersionsIn(words).Versions); !slices.Equal(got, lines(1, 2)) {
			t.Errorf("VersionsIn tells the lines %v", got)
		}
		checkFree(t, words, impl.IntsResult{List: lines(3, 4)})
		checkNext(t, words, impl.IntResult{Value: 5})
	}
}
