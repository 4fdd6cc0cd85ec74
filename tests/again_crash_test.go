package tests

import (
	"math"
	"slices"
	"testing"

	"loop.example/g00691/impl"
)

// freedIn: the words, of which these lines are free.
func freedIn(words []int64, lines ...int64) []int64 {
	words = slices.Clone(words)
	for _, line := range lines {
		words[8*line] = 0
	}
	return words
}

func TestACrashOfADeviceThatComesUp(t *testing.T) {
	words := manyDead()
	for _, c := range []struct {
		cut   int64
		fates []int64
		freed []int64
	}{
		// No act, and one: what is stored and not flushed may be kept, too.
		{0, nil, nil}, {0, lines(1), nil}, {0, lines(0, 1), nil},
		{1, nil, nil}, {1, lines(0), nil}, {1, lines(1), lines(2)}, {1, lines(0, 1), nil}, {1, lines(1, 0), lines(2)},
		{2, nil, nil}, {2, lines(0), nil}, {2, lines(1), lines(2)},
		// Two cells are on their way, and with one act more another one is stored.
		{4, lines(1), lines(2, 3)}, {4, lines(1, 0), lines(2)}, {4, lines(0, 1), lines(3)}, {4, lines(0, 1, 1), lines(3)}, {4, nil, nil},
		{5, lines(1), lines(2, 3, 5)}, {5, lines(0, 1), lines(3)}, {5, lines(1, 0), lines(2, 5)}, {5, lines(0, 0, 1), lines(5)}, {5, lines(1, 0, 0, 1, 1, 1), lines(2)},
		// Four cells, and fewer fates, as many, and more.
		{8, lines(1, 0, 0), lines(2, 6)}, {8, lines(0, 1, 1), lines(3, 5)}, {8, lines(0, 0, 0, 1), lines(6)}, {8, lines(1, 1, 0, 0, 1, 1, 1), lines(2, 3)},
		{8, nil, nil}, {8, zeros(1000), nil}, {8, lines(1), lines(2, 3, 5, 6)},
		// What is fenced is kept, whatever the fates are; then the one that is gone follows.
		{9, nil, lines(2, 3, 5, 6)}, {9, lines(0), lines(2, 3, 5, 6)}, {9, lines(1), lines(2, 3, 5, 6)},
		{10, lines(0, 1), lines(2, 3, 5, 6)}, {10, lines(1, 0), lines(1, 2, 3, 5, 6)}, {11, nil, lines(2, 3, 5, 6)}, {11, lines(1), lines(1, 2, 3, 5, 6)},
		{12, nil, lines(1, 2, 3, 5, 6)}, {12, lines(0), lines(1, 2, 3, 5, 6)}, {12, lines(1), lines(1, 2, 3, 5, 6)},
	} {
		got := checkMountCrash(t, words, c.cut, c.fates)
		checkLeft(t, "crashed", got, impl.WordsListResult{Words: freedIn(words, c.freed...)})
		checkSameTree(t, "crashed", words, got.Words)
	}
}

func TestACrashOfADeviceThatComesUpWithNothingDead(t *testing.T) {
	for _, words := range [][]int64{someKept(), emptyImage(2, 2), emptyImage(41, 9999)} {
		for _, cut := range []int64{0, 1} {
			for _, fates := range [][]int64{nil, {}, {0}, {1}, {1, 0, 1}} {
				checkLeft(t, "nothing dead", checkMountCrash(t, words, cut, fates), impl.WordsListResult{Words: words})
			}
		}
		for _, cut := range []int64{math.MinInt64, -1, 2, 3, math.MaxInt64} {
			checkLeftCode(t, "nothing dead", checkMountCrash(t, words, cut, nil), impl.ErrRange)
		}
	}
}

func TestWrongArgumentsOfACrashOfADeviceThatComesUp(t *testing.T) {
	for _, words := range [][]int64{manyDead(), filled(5, pieceBlock(9, 3, 4)), imageOf(5, goneBlock(2, 3))} {
		acts := int64(len(impl.MountActs(words).Acts))
		for _, cut := range []int64{math.MinInt64, math.MinInt64 + acts + 1, -acts, -1, acts + 1, 2 * acts, math.MaxInt64} {
			for _, fates := range [][]int64{nil, {0}, {1, 0}, {2}} {
				checkLeftCode(t, "such a cut", checkMountCrash(t, words, cut, fates), impl.ErrRange)
			}
		}
		for cut := range acts + 1 {
			if got := checkMountCrash(t, words, cut, []int64{1, 0}); got.Code != 0 {
				t.Errorf("behind %d acts the code is %d", cut, got.Code)
			}
			for _, fate := range []int64{math.MinInt64, -1, 2, math.MaxInt64} {
				// However few cells there are, all fates are asked.
				checkLeftCode(t, "such a fate", checkMountCrash(t, words, cut, []int64{fate}), impl.ErrRange)
				checkLeftCode(t, "such a fate", checkMountCrash(t, words, cut, append(zeros(50), fate)), impl.ErrRange)
			}
		}
	}
}

func TestACrashOfWordsThatCannotBeRead(t *testing.T) {
	for code, all := range wordsWithCodes() {
		for _, words := range all {
			for _, cut := range []int64{math.MinInt64, -1, 0, 1, 500, math.MaxInt64} {
				for _, fates := range [][]int64{nil, {1}, {2}, {math.MinInt64}} {
					checkLeftCode(t, "not to be read", checkMountCrash(t, words, cut, fates), code)
				}
			}
		}
	}
}

func TestAChainWithoutCrashes(t *testing.T) {
	for _, words := range [][]int64{manyDead(), someKept(), emptyImage(2, 2)} {
		for _, cuts := range [][]int64{nil, {}} {
			// Without a crash no fate is asked.
			for _, fates := range [][]int64{nil, {}, {1}, {2}, {math.MinInt64, -1}} {
				checkLeft(t, "no crash", checkChain(t, words, cuts, fates), impl.WordsListResult{Words: swept(words)})
			}
		}
	}
}

func TestAChainOfCrashes(t *testing.T) {
	words := manyDead()
	want := impl.WordsListResult{Words: freedIn(words, 1, 2, 3, 5, 6)}
	for _, cuts := range [][]int64{
		{0}, {1}, {12}, {5, 5}, {1, 3, 6}, {0, 0, 0, 0, 0, 0}, {12, 12, 12, 12, 12, 12}, {9, 1, 2, 3}, {1, 2, 3, 4, 5, 6},
		// Of a cut beyond the acts is taken what these, and 1, leave of it.
		{13}, {14}, {25}, {26}, {math.MaxInt64}, {math.MaxInt64, math.MaxInt64 - 1, 1000, 999, 998, 997}, {11, 11, 11, 11, 11, 11},
	} {
		for _, fates := range [][]int64{nil, {}, {0}, {1}, {0, 1}, {1, 0}, {0, 0, 1}, {1, 1, 0}, zeros(100)} {
			got := checkChain(t, words, cuts, fates)
			checkLeft(t, "a chain", got, want)
			checkIsClean(t, "a chain", got.Words)
			checkSameTree(t, "a chain", words, got.Words)
		}
	}
	for _, cuts := range [][]int64{{0}, {1}, {2}, {3, 2, 1}, {math.MaxInt64}} {
		checkLeft(t, "nothing dead", checkChain(t, someKept(), cuts, []int64{1}), impl.WordsListResult{Words: someKept()})
	}
}

func TestAChainOfTooManyCrashes(t *testing.T) {
	words := manyDead()
	if got := checkChain(t, words, zeros(6), nil); got.Code != 0 {
		t.Errorf("of 6 crashes the code is %d", got.Code)
	}
	for _, many := range []int{7, 8, 100000} {
		for _, fate := range []int64{0, 1, 2} {
			checkLeftCode(t, "too many", checkChain(t, words, zeros(many), []int64{fate}), impl.ErrMany)
			checkLeftCode(t, "too many", checkChain(t, nil, slices.Repeat([]int64{-1}, many), []int64{fate}), impl.ErrMany)
		}
	}
}

func TestAChainWithACutBelowZero(t *testing.T) {
	for _, words := range [][]int64{manyDead(), someKept()} {
		for _, cut := range []int64{math.MinInt64, math.MinInt64 + 1, -14, -13, -12, -1} {
			for place := range 6 {
				cuts := zeros(6)
				cuts[place] = cut
				checkLeftCode(t, "below 0", checkChain(t, words, cuts, nil), impl.ErrRange)
				checkLeftCode(t, "below 0", checkChain(t, words, cuts[:place+1], []int64{1}), impl.ErrRange)
			}
		}
	}
}

func TestAChainWithAFateThatIsNone(t *testing.T) {
	for _, words := range [][]int64{manyDead(), someKept()} {
		for _, fate := range []int64{math.MinInt64, -1, 2, math.MaxInt64} {
			for _, cuts := range [][]int64{{0}, {1}, {3, 2}, {0, 0, 0, 0, 0, 5}} {
				checkLeftCode(t, "such a fate", checkChain(t, words, cuts, []int64{fate}), impl.ErrRange)
				checkLeftCode(t, "such a fate", checkChain(t, words, cuts, []int64{0, 1, 0, fate}), impl.ErrRange)
			}
		}
	}
}

func TestAChainOfWordsThatCannotBeRead(t *testing.T) {
	for code, all := range wordsWithCodes() {
		for _, words := range all {
			for _, cuts := range [][]int64{nil, {0}, {math.MaxInt64}, {0, 0, 0, 0, 0, 0}, {5, -1}} {
				// They are asked ahead of the fates, and ahead of the next cut.
				for _, fates := range [][]int64{nil, {1}, {2}} {
					checkLeftCode(t, "not to be read", checkChain(t, words, cuts, fates), code)
				}
			}
			// The cut is asked ahead of them, and how many there are ahead of all else.
			checkLeftCode(t, "below 0", checkChain(t, words, []int64{-1, 0}, nil), impl.ErrRange)
			checkLeftCode(t, "below 0", checkChain(t, words, []int64{-1}, []int64{2}), impl.ErrRange)
			checkLeftCode(t, "too many", checkChain(t, words, zeros(7), nil), impl.ErrMany)
		}
	}
}
