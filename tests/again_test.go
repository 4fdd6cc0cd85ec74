package tests

import (
	"math"
	"slices"
	"testing"

	"loop.example/g00691/impl"
)

// manyDead: by the clock 6 the line 4 alone lives; 1 tells of one that is gone and sure, 2 what it was, 3 a piece of it, 5 what is newer than sure, 6 of one that is gone, but not surely.
func manyDead() []int64 {
	return imageOf(6, goneBlock(1, 4), fileBlock(1, 0, "a", 1, 2), pieceBlock(1, 0, 2), dirBlock(2, 0, "b", 3), dirBlock(3, 2, "c", 5), goneBlock(2, 6), freeBlock())
}

// wordsWithCodes: words of which LiveOf has this code.
func wordsWithCodes() map[int64][][]int64 {
	return map[int64][][]int64{
		impl.ErrMany:  {nil, {}, {691691691}, emptyImage(1, 5), emptyImage(42, 5), emptyImage(3, 5)[:23]},
		impl.ErrRange: {emptyImage(3, 1), emptyImage(3, 10000), emptyImage(3, -1), laid(emptyImage(3, 5), 2, []int64{0, 0, 0, 0, 0, 0, 0, noWord})},
		impl.ErrState: {
			make([]int64, 16), slices.Repeat([]int64{5}, 16), imageOf(5, dirBlock(1, 2, "a", 3)), imageOf(5, fileBlock(1, 0, "a", 1, 3)),
			imageOf(5, dirBlock(1, 0, "a", 3), dirBlock(2, 0, "a", 2)), imageOf(9, append(chain(5), goneBlock(9, 1))...),
		},
		impl.ErrForm:  {imageOf(5, []int64{1}), imageOf(5, goneBlock(1, 3), nil, []int64{greatestHeadWord + 1})},
		impl.ErrText:  {imageOf(5, withRest(dirBlock(1, 0, "a", 3), 0)), imageOf(5, fileBlock(1, 0, "a", 1, 4), withRest(goneBlock(1, 1), 1))},
		impl.ErrTaken: {imageOf(5, goneBlock(1, 3), dirBlock(1, 0, "a", 3)), imageOf(5, pieceBlock(1, 0, 3), pieceBlock(1, 0, 3), goneBlock(2, 9))},
	}
}

func TestConstantsOfWhatCrashesLeave(t *testing.T) {
	if impl.MaxCrashes != 6 {
		t.Errorf("there may be %d crashes", impl.MaxCrashes)
	}
}

func checkLeftCode(t *testing.T, what string, got impl.WordsListResult, code int64) {
	t.Helper()
	if got.Code != code || len(got.Words) > 0 {
		t.Fatalf("%s: got %+v, want the code %d", what, got, code)
	}
}

func TestACrashOfADeviceThatIsMade(t *testing.T) {
	clock := laid(make([]int64, 16), 0, []int64{0, 2})
	whole := emptyImage(2, 2)
	lost, kept := []int64{0}, []int64{1}
	// What is left behind each cut, if what was on its way is lost, and if it is kept.
	for cut, left := range [][2][]int64{
		{make([]int64, 16), make([]int64, 16)}, {make([]int64, 16), make([]int64, 16)}, {make([]int64, 16), make([]int64, 16)}, {make([]int64, 16), make([]int64, 16)},
		{make([]int64, 16), clock}, {make([]int64, 16), clock}, {clock, clock}, {clock, whole}, {clock, whole}, {whole, whole},
	} {
		for _, fates := range [][]int64{nil, {}, lost, {0, 1}, {0, 1, 1, 1, 1, 1, 1, 1, 1, 1}} {
			checkLeft(t, "lost", checkFormatCrash(t, 2, int64(cut), fates), impl.WordsListResult{Words: left[0]})
		}
		for _, fates := range [][]int64{kept, {1, 0}, {1, 0, 0, 0, 0, 0, 0, 0, 0, 0}} {
			checkLeft(t, "kept", checkFormatCrash(t, 2, int64(cut), fates), impl.WordsListResult{Words: left[1]})
		}
	}
}

func TestADeviceThatIsMadeIsNoneUntilMagicIsKept(t *testing.T) {
	for _, lines := range []int64{2, 3, 20, 41} {
		acts := 2*lines + 5
		for cut := range acts + 1 {
			for _, fates := range [][]int64{nil, {1}} {
				got := checkFormatCrash(t, lines, cut, fates)
				isMade := cut == acts || cut >= acts-2 && len(fates) > 0
				if isMade {
					checkLeft(t, "made", got, impl.WordsListResult{Words: emptyImage(int(lines), 2)})
					checkIsClean(t, "made", got.Words)
				} else if code := impl.LiveOf(got.Words).Code; code != impl.ErrState || impl.IsClean(got.Words) {
					t.Fatalf("behind %d acts of %d there is a device: its code is %d", cut, acts, code)
				}
			}
		}
	}
}

func TestWrongArgumentsOfACrashOfADeviceThatIsMade(t *testing.T) {
	for _, lines := range []int64{math.MinInt64, -1, 0, 1, 42, math.MaxInt64} {
		for _, cut := range []int64{math.MinInt64, -1, 0, 9, math.MaxInt64} {
			for _, fates := range [][]int64{nil, {1}, {2}} {
				checkLeftCode(t, "so many lines", checkFormatCrash(t, lines, cut, fates), impl.ErrMany)
			}
		}
	}
	for _, lines := range []int64{2, 3, 41} {
		acts := 2*lines + 5
		for _, cut := range []int64{math.MinInt64, -1, acts + 1, acts + 2, math.MaxInt64} {
			checkLeftCode(t, "such a cut", checkFormatCrash(t, lines, cut, nil), impl.ErrRange)
			checkLeftCode(t, "such a cut", checkFormatCrash(t, lines, cut, []int64{1, 0}), impl.ErrRange)
			checkLeftCode(t, "such a cut and fate", checkFormatCrash(t, lines, cut, []int64{2}), impl.ErrRange)
		}
		for _, cut := range []int64{0, 1, acts} {
			for _, fate := range []int64{math.MinInt64, -1, 2, math.MaxInt64} {
				// Behind no act, or behind all of them, there is no cell that would have this fate.
				checkLeftCode(t, "such a fate", checkFormatCrash(t, lines, cut, []int64{fate}), impl.ErrRange)
				checkLeftCode(t, "such a fate", checkFormatCrash(t, lines, cut, []int64{1, 0, 1, fate}), impl.ErrRange)
			}
		}
	}
}

func TestWordsWithNothingDeadAreClean(t *testing.T) {
	for what, words := range map[string][]int64{
		"nothing":              emptyImage(2, 2),
		"as many free lines":   emptyImage(41, 9999),
		"free lines that tell": imageOf(9, freeBlock(), freeBlock()),
		"all lives":            someKept(),
		"one that was moved":   imageOf(5, dirBlock(1, 0, "a", 3), fileBlock(2, 1, "b", 1, 2), pieceBlock(2, 0, 3)),
	} {
		checkIsClean(t, what, words)
	}
}

func TestWordsWithOneDeadLineAreNotClean(t *testing.T) {
	for what, block := range map[string][]int64{
		"an older directory":            dirBlock(12, 0, "old", 2),
		"an older file":                 fileBlock(8, 9, "old", 4, 6),
		"an older piece":                pieceBlock(8, 1, 2),
		"older, and gone":               goneBlock(12, 1),
		"newer than sure":               dirBlock(50, 0, "new", 8),
		"newer than sure, of a node":    dirBlock(5, 0, "new", 9),
		"newer than sure, of a piece":   pieceBlock(8, 1, 9999),
		"newer than sure, unreadable":   withRest(dirBlock(50, 0, "new", 8), 5, noWord-1),
		"newer than sure, and gone":     goneBlock(5, 8),
		"a piece without its file":      pieceBlock(60, 0, 3),
		"a piece of a directory":        pieceBlock(5, 0, 7),
		"a piece that is not below":     pieceBlock(8, 2, 7),
		"gone, and nothing else of it":  goneBlock(60, 7),
		"gone, and nothing else, first": goneBlock(60, 1),
	} {
		// The clock of these words is 9, so the epoch 7 is the last one that is sure.
		for _, line := range []int{1, 7, 19} {
			words := laid(someKept(), line, block)
			acts := checkMount(t, words)
			if impl.IsClean(words) || acts.Code != 0 || impl.LiveOf(words).Code != 0 {
				t.Errorf("%s: it is clean, or has the code %d", what, acts.Code)
			}
			checkLeft(t, what, impl.MountWords(words), impl.WordsListResult{Words: laid(words, line, []int64{0})})
			checkSameTree(t, what, someKept(), impl.MountWords(words).Words)
		}
	}
}

func TestWordsWithACodeAreNotCleanAndDoNotComeUp(t *testing.T) {
	for code, all := range wordsWithCodes() {
		for _, words := range all {
			checkLiveCode(t, "not to be read", words, code)
			got := checkMount(t, words)
			if impl.IsClean(words) || got.Code != code || len(got.Acts) > 0 {
				t.Errorf("of %.200v MountActs is %+v, want the code %d", words, got, code)
			}
			checkLeftCode(t, "MountWords", impl.MountWords(words), code)
		}
	}
}

// checkMountActs: by these acts, and no others, such words come up.
func checkMountActs(t *testing.T, what string, words []int64, want ...impl.Act) {
	t.Helper()
	if got := checkMount(t, words); got.Code != 0 || !slices.Equal(got.Acts, want) {
		t.Fatalf("%s: MountActs = %+v\nwant %+v", what, got, want)
	}
}

func TestTheActsOfWordsWithNothingDead(t *testing.T) {
	fence := impl.Act{Kind: impl.ActFence}
	checkMountActs(t, "nothing", emptyImage(2, 2), fence)
	checkMountActs(t, "all lives", someKept(), fence)
	checkMountActs(t, "free lines that tell", imageOf(9, freeBlock()), fence)
}

func TestTheActsOfDeadNodesAndPiecesAlone(t *testing.T) {
	checkMountActs(t, "an older one", imageOf(5, dirBlock(1, 0, "a", 3), dirBlock(1, 0, "b", 2)),
		impl.Act{Kind: impl.ActStore, At: 16}, impl.Act{Kind: impl.ActFlush, At: 2}, impl.Act{Kind: impl.ActFence})
	// Lines rise, whatever Uids, epochs and kinds they tell.
	words := imageOf(5, nil, pieceBlock(9, 3, 1), dirBlock(7, 0, "new", 4), dirBlock(2, 0, "b", 3), pieceBlock(2, 0, 3), fileBlock(2, 0, "c", 4, 2), dirBlock(1, 0, "new", 9))
	checkMountActs(t, "many", words, wiping(2, 3, 5, 6, 7)...)
	// So many as there may be: of each line but the first one a store and a flush.
	checkMountActs(t, "all lines", filled(5, pieceBlock(9, 3, 4)), wiping(rising(1, 40)...)...)
}

// filled: as many lines as there may be, each with this block.
func filled(clock int64, block []int64) []int64 {
	words := emptyImage(41, clock)
	for line := 1; line <= 40; line++ {
		words = laid(words, line, block)
	}
	return words
}

func rising(from int64, to int64) []int64 {
	var list []int64
	for n := from; n <= to; n++ {
		list = append(list, n)
	}
	return list
}

func TestTheActsOfWhatIsGoneAndSureAlone(t *testing.T) {
	// The first fence is there, though nothing is cleared ahead of it.
	checkMountActs(t, "one", imageOf(5, dirBlock(1, 0, "a", 3), goneBlock(2, 3)),
		impl.Act{Kind: impl.ActFence}, impl.Act{Kind: impl.ActStore, At: 16}, impl.Act{Kind: impl.ActFlush, At: 2}, impl.Act{Kind: impl.ActFence})
	words := imageOf(5, goneBlock(9, 1), nil, goneBlock(7, 3), goneBlock(8, 2), goneBlock(7, 1))
	checkMountActs(t, "some", words, slices.Concat(wiping(), wiping(1, 3, 4, 5))...)
	// That one that lives was gone once is no reason to keep it longer than others.
	checkMountActs(t, "it is there again", imageOf(5, goneBlock(1, 1), dirBlock(1, 0, "a", 2)), slices.Concat(wiping(), wiping(1))...)
	words = emptyImage(41, 9999)
	for line := int64(1); line <= 40; line++ {
		words = laid(words, int(line), goneBlock(1000-line, 9997))
	}
	checkMountActs(t, "all lines", words, slices.Concat(wiping(), wiping(rising(1, 40)...))...)
}

func TestWhatIsGoneAndSureIsClearedBehindAllElse(t *testing.T) {
	checkMountActs(t, "many", manyDead(), slices.Concat(wiping(2, 3, 5, 6), wiping(1))...)
	store, flush, fence := int64(impl.ActStore), int64(impl.ActFlush), impl.Act{Kind: impl.ActFence}
	words := imageOf(4, goneBlock(1, 2), dirBlock(1, 0, "a", 1))
	checkMountActs(t, "two", words, impl.Act{Kind: store, At: 16}, impl.Act{Kind: flush, At: 2}, fence, impl.Act{Kind: store, At: 8}, impl.Act{Kind: flush, At: 1}, fence)
	// Both kinds rise, each for itself.
	words = imageOf(9, goneBlock(5, 7), dirBlock(5, 0, "e", 6), goneBlock(2, 5), pieceBlock(2, 1, 4), goneBlock(5, 2), dirBlock(2, 0, "b", 1), goneBlock(4, 8))
	checkMountActs(t, "both kinds", words, slices.Concat(wiping(2, 4, 6, 7), wiping(1, 3, 5))...)
	checkLeft(t, "both kinds", impl.MountWords(words), impl.WordsListResult{Words: swept(words)})
}

func TestWhatIsGoneAndNotSureIsClearedWithAllElse(t *testing.T) {
	words := imageOf(5, goneBlock(1, 4), dirBlock(1, 0, "a", 2), goneBlock(2, 5), goneBlock(3, 9999))
	checkMountActs(t, "not sure", words, wiping(1, 3, 4)...)
	checkSameTree(t, "not sure", imageOf(5, dirBlock(1, 0, "a", 2)), impl.MountWords(words).Words)
	// By the next clock the first one of these is sure, and by the one after that the second one.
	checkMountActs(t, "one is sure", ofClock(words, 6), slices.Concat(wiping(2, 3, 4), wiping(1))...)
	checkMountActs(t, "two are sure", ofClock(words, 7), slices.Concat(wiping(2, 4), wiping(1, 3))...)
	checkMountActs(t, "the last clock", ofClock(words, 9999), slices.Concat(wiping(2, 4), wiping(1, 3))...)
	checkMountActs(t, "none is sure", filled(2, goneBlock(1, 1)), wiping(rising(1, 40)...)...)
}

func TestTheWordsOfADeviceThatHasComeUp(t *testing.T) {
	words := manyDead()
	want := slices.Clone(words)
	for _, line := range []int64{1, 2, 3, 5, 6} {
		want[8*line] = 0
	}
	// Of a line that is cleared the other words stay, as they do of a free one and of the first one.
	words[3], want[3] = 77, 77
	checkLeft(t, "many", impl.MountWords(words), impl.WordsListResult{Words: want})
	checkIsClean(t, "many", want)
	checkSameTree(t, "many", words, want)
	for _, clean := range [][]int64{someKept(), emptyImage(2, 2), emptyImage(41, 9999), want} {
		checkLeft(t, "clean", impl.MountWords(clean), impl.WordsListResult{Words: clean})
	}
}

func TestTheWordsAreWhatADeviceKeepsWhenTheActsAreDone(t *testing.T) {
	for _, words := range [][]int64{manyDead(), someKept(), emptyImage(2, 2), filled(5, pieceBlock(9, 3, 4)), filled(2, goneBlock(1, 1))} {
		done := impl.DoActs(impl.Device{Words: words}, impl.MountActs(words).Acts)
		if done.Code != 0 || len(done.Device.Flights)+len(done.Device.Over) > 0 {
			t.Fatalf("the device is %+v", done)
		}
		checkLeft(t, "done", impl.MountWords(words), impl.WordsListResult{Words: done.Device.Words})
	}
}
