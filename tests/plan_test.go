package tests

import (
	"testing"

	"loop.example/g00691/impl"
)

// checkPlan: the changes, and how many lines they take, where nothing that there is is of this epoch.
func checkPlan(t *testing.T, words []int64, o impl.Op, want ...impl.Change) {
	t.Helper()
	checkPlanned(t, "an op", impl.PlanOp(words, o), impl.ChangesResult{Changes: want})
	lines := int64(0)
	for _, c := range want {
		if c.Kind != impl.ChangeLoose {
			lines++
		}
	}
	checkNeed(t, "an op", impl.NeedOf(words, o), impl.IntResult{Value: lines})
}

// checkNoPlan: the code of PlanOp is that of NeedOf and of ApplyOp, too.
func checkNoPlan(t *testing.T, what string, words []int64, o impl.Op, code int64) {
	t.Helper()
	checkPlanned(t, what, impl.PlanOp(words, o), impl.ChangesResult{Code: code})
	checkNeed(t, what, impl.NeedOf(words, o), impl.IntResult{Code: code})
	checkWordsResult(t, what, impl.ApplyOp(words, o), impl.ImageResult{Code: code})
}

// oneOfEachKind: ops without a fault.
func oneOfEachKind() []impl.Op {
	return []impl.Op{makeDir("/x"), makeFile("/x"), writeOp("/a/f", 0, 1, 2, 3, 4), cutOp("/a/f", 0), dropOp("/e"), moveOp("/e", "/x"), readOp("/e"), listOp("/"), syncOp()}
}

func TestWhatIsMadeHasTheNextUidAndTheUidOfItsParent(t *testing.T) {
	words := someKept()
	checkPlan(t, words, makeFile("/new"), nodeTurn(42, false, 0, "new", 0))
	checkPlan(t, words, makeDir("/new"), nodeTurn(42, true, 0, "new", 0))
	checkPlan(t, words, makeFile("/a/new"), nodeTurn(42, false, 5, "new", 0))
	checkPlan(t, words, makeDir("/a/b/zzzzzz"), nodeTurn(42, true, 3, "zzzzzz", 0))
	checkPlan(t, words, makeFile("/a/b/c/a"), nodeTurn(42, false, 30, "a", 0))
	checkPlan(t, words, makeDir("/z/f"), nodeTurn(42, true, 12, "f", 0))
	checkPlan(t, words, makeFile("/ab/f"), nodeTurn(42, false, 9, "f", 0))
	checkPlan(t, words, makeFile("/b"), nodeTurn(42, false, 0, "b", 0))
	checkPlan(t, emptyImage(2, 2), makeDir("/a"), nodeTurn(1, true, 0, "a", 0))
	checkPlan(t, emptyImage(41, 9999), makeFile("/a"), nodeTurn(1, false, 0, "a", 0))
}

func TestWritingAPieceThatIsThereChangesThePieceAlone(t *testing.T) {
	words := someKept()
	checkPlan(t, words, writeOp("/a/f", 0, 1, 2, 3, 4), pieceTurn(8, 0, 1, 2, 3, 4))
	checkPlan(t, words, writeOp("/a/f", 1, 0, 0, 0, 0), pieceTurn(8, 1, 0, 0, 0, 0))
	for index := range int64(4) {
		checkPlan(t, words, writeOp("/z/y", index, 9999, 0, index, 1), pieceTurn(20, index, 9999, 0, index, 1))
	}
	// The same numbers as are there already are a change, too.
	checkPlan(t, words, writeOp("/a/f", 0, 8, 0, 6, 9999), pieceTurn(8, 0, 8, 0, 6, 9999))
}

func TestWritingAPieceThatIsOneMoreChangesTheNodeBehindIt(t *testing.T) {
	words := someKept()
	checkPlan(t, words, writeOp("/e", 0, 1, 2, 3, 4), pieceTurn(2, 0, 1, 2, 3, 4), nodeTurn(2, false, 0, "e", 1))
	checkPlan(t, words, writeOp("/a/b/c/d", 1, 1, 2, 3, 4), pieceTurn(41, 1, 1, 2, 3, 4), nodeTurn(41, false, 30, "d", 2))
	checkPlan(t, words, writeOp("/a/f", 2, 0, 0, 0, 9999), pieceTurn(8, 2, 0, 0, 0, 9999), nodeTurn(8, false, 5, "f", 3))
	three := imageOf(9, fileBlock(7, 0, "g", 3, 1), pieceBlock(7, 0, 1), pieceBlock(7, 1, 1), pieceBlock(7, 2, 1))
	checkPlan(t, three, writeOp("/g", 3, 4, 3, 2, 1), pieceTurn(7, 3, 4, 3, 2, 1), nodeTurn(7, false, 0, "g", 4))
}

func TestCuttingChangesTheNodeAndThenLetsPiecesLoose(t *testing.T) {
	words := someKept()
	checkPlan(t, words, cutOp("/e", 0))
	checkPlan(t, words, cutOp("/a/f", 2))
	checkPlan(t, words, cutOp("/z/y", 4))
	checkPlan(t, words, cutOp("/a/b/c/d", 1))
	checkPlan(t, words, cutOp("/a/f", 1), nodeTurn(8, false, 5, "f", 1), looseTurn(8, 1))
	checkPlan(t, words, cutOp("/a/f", 0), nodeTurn(8, false, 5, "f", 0), looseTurn(8, 0), looseTurn(8, 1))
	checkPlan(t, words, cutOp("/z/y", 3), nodeTurn(20, false, 12, "y", 3), looseTurn(20, 3))
	checkPlan(t, words, cutOp("/z/y", 1), nodeTurn(20, false, 12, "y", 1), looseTurn(20, 1), looseTurn(20, 2), looseTurn(20, 3))
	checkPlan(t, words, cutOp("/z/y", 0), nodeTurn(20, false, 12, "y", 0), looseTurn(20, 0), looseTurn(20, 1), looseTurn(20, 2), looseTurn(20, 3))
}

func TestWhatIsDroppedIsGoneAndThenItsPiecesAreLoose(t *testing.T) {
	words := someKept()
	checkPlan(t, words, dropOp("/e"), goneTurn(2))
	checkPlan(t, words, dropOp("/ab"), goneTurn(9))
	checkPlan(t, words, dropOp("/a/b/c/d"), goneTurn(41), looseTurn(41, 0))
	checkPlan(t, words, dropOp("/a/f"), goneTurn(8), looseTurn(8, 0), looseTurn(8, 1))
	checkPlan(t, words, dropOp("/z/y"), goneTurn(20), looseTurn(20, 0), looseTurn(20, 1), looseTurn(20, 2), looseTurn(20, 3))
}

func TestWhatIsMovedHasTheUidOfTheOtherParentAndTheOtherName(t *testing.T) {
	words := someKept()
	checkPlan(t, words, moveOp("/a/f", "/z/g"), nodeTurn(8, false, 12, "g", 2))
	checkPlan(t, words, moveOp("/a/f", "/f"), nodeTurn(8, false, 0, "f", 2))
	checkPlan(t, words, moveOp("/a/f", "/a/x"), nodeTurn(8, false, 5, "x", 2))
	checkPlan(t, words, moveOp("/a/f", "/a/b/c/f"), nodeTurn(8, false, 30, "f", 2))
	checkPlan(t, words, moveOp("/z/y", "/a/y"), nodeTurn(20, false, 5, "y", 4))
	checkPlan(t, words, moveOp("/e", "/ee"), nodeTurn(2, false, 0, "ee", 0))
	checkPlan(t, words, moveOp("/a/b", "/ab/b"), nodeTurn(3, true, 9, "b", 0))
	checkPlan(t, words, moveOp("/a/b", "/b"), nodeTurn(3, true, 0, "b", 0))
	checkPlan(t, words, moveOp("/a/b", "/a/bb"), nodeTurn(3, true, 5, "bb", 0))
	checkPlan(t, words, moveOp("/z", "/a/b/z"), nodeTurn(12, true, 3, "z", 0))
	checkPlan(t, words, moveOp("/ab", "/abc"), nodeTurn(9, true, 0, "abc", 0))
}

func TestWhatOnlyAsksChangesNothing(t *testing.T) {
	full := imageOf(9, fileBlock(2, 0, "e", 0, 7))[:16]
	for _, words := range [][]int64{someKept(), full} {
		for _, o := range []impl.Op{readOp("/e"), listOp("/"), syncOp(), cutOp("/e", 0)} {
			checkPlan(t, words, o)
			checkWordsResult(t, "an op that changes nothing", impl.ApplyOp(words, o), impl.ImageResult{Words: words})
		}
	}
	for _, o := range []impl.Op{readOp("/z/y"), listOp("/a"), listOp("/ab"), cutOp("/z/y", 4)} {
		checkPlan(t, someKept(), o)
		checkWordsResult(t, "an op that changes nothing", impl.ApplyOp(someKept(), o), impl.ImageResult{Words: someKept()})
	}
}

func TestEachCodeOfWhatLivesIsThePlans(t *testing.T) {
	for _, o := range append(oneOfEachKind(), impl.Op{}, readOp("none")) {
		checkNoPlan(t, "nil", nil, o, impl.ErrMany)
		checkNoPlan(t, "one line", emptyImage(1, 5), o, impl.ErrMany)
		checkNoPlan(t, "42 lines", emptyImage(42, 5), o, impl.ErrMany)
		checkNoPlan(t, "a number that is no word", imageOf(5, []int64{0, -1}), o, impl.ErrRange)
		checkNoPlan(t, "no Magic", make([]int64, 16), o, impl.ErrState)
		checkNoPlan(t, "a clock above the last epoch", emptyImage(2, 10000), o, impl.ErrRange)
		checkNoPlan(t, "a line without a head", imageOf(5, []int64{5}), o, impl.ErrForm)
		checkNoPlan(t, "a sure block that cannot be read", imageOf(5, withRest(dirBlock(1, 0, "a", 3), 3)), o, impl.ErrText)
		checkNoPlan(t, "two of one epoch", imageOf(5, dirBlock(1, 0, "a", 3), goneBlock(1, 3)), o, impl.ErrTaken)
		checkNoPlan(t, "no parent", imageOf(5, dirBlock(1, 2, "a", 3)), o, impl.ErrState)
		checkNoPlan(t, "something is dead, and two are of one epoch", imageOf(5, pieceBlock(9, 0, 1), dirBlock(1, 0, "a", 3), goneBlock(1, 3)), o, impl.ErrTaken)
	}
}

func TestNothingIsPlannedWhereSomethingIsDead(t *testing.T) {
	dead := map[string][]int64{
		"an older version":   imageOf(9, fileBlock(2, 0, "e", 0, 7), fileBlock(2, 0, "old", 0, 6)),
		"what is gone":       imageOf(9, fileBlock(2, 0, "e", 0, 7), goneBlock(3, 1)),
		"a loose piece":      imageOf(9, fileBlock(2, 0, "e", 0, 7), pieceBlock(2, 0, 7)),
		"what is not sure":   imageOf(9, fileBlock(2, 0, "e", 0, 7), dirBlock(3, 0, "f", 8)),
		"what is not known":  imageOf(9, fileBlock(2, 0, "e", 0, 7), withRest(dirBlock(3, 0, "f", 9), noWord-1)),
		"what is far ahead":  imageOf(9, fileBlock(2, 0, "e", 0, 7), goneBlock(3, 9999)),
		"the greatest Uid":   imageOf(9, fileBlock(2, 0, "e", 0, 7), goneBlock(999, 7)),
		"all that there was": imageOf(9, goneBlock(1, 1)),
	}
	for what, words := range dead {
		// The ErrState is asked ahead of what is wrong with the op, and of the next Uid.
		for _, o := range append(oneOfEachKind(), impl.Op{}, readOp("none"), cutOp("/a", 5), dropOp("/none"), makeFile("/e")) {
			checkNoPlan(t, what, words, o, impl.ErrState)
		}
		checkPlan(t, swept(words), syncOp())
	}
}

func TestEachCodeOfTheModelIsThePlans(t *testing.T) {
	codes := map[int64][]impl.Op{
		impl.ErrText:  {makeFile("new"), readOp(""), moveOp("/e", "/E")},
		impl.ErrMany:  {makeFile("/a/b/c/d/e"), writeOp("/a/f", 0, 1, 2, 3), moveOp("/a", "/ab/a"), moveOp("/z", "/a/b/c/z")},
		impl.ErrRange: {writeOp("/a/f", 3, 1, 2, 3, 4), writeOp("/e", 1, 1, 2, 3, 4), writeOp("/e", 4, 1, 2, 3, 4), writeOp("/e", 0, 1, 2, 3, -1), cutOp("/a/f", 3), cutOp("/z/y", 5)},
		impl.ErrNone:  {makeFile("/none/x"), writeOp("/none", 0, 1, 2, 3, 4), cutOp("/none", 0), dropOp("/none"), moveOp("/none", "/x"), moveOp("/e", "/none/x"), readOp("/a/e"), listOp("/none")},
		impl.ErrForm:  {{}, {Kind: 9}, {Kind: impl.OpSync, Path: "/e"}, makeFile("/e/x"), writeOp("/a", 0, 1, 2, 3, 4), cutOp("/", 0), dropOp("/"), moveOp("/a", "/a/x"), moveOp("/a", "/"), readOp("/ab"), listOp("/e")},
		impl.ErrTaken: {makeFile("/"), makeDir("/a"), makeFile("/a/b"), moveOp("/e", "/a/f"), moveOp("/a/f", "/e")},
		impl.ErrState: {dropOp("/a"), dropOp("/a/b"), dropOp("/z")},
	}
	full := append(someKept()[:8], someKept()[16:56]...)
	full = append(full, someKept()[64:8*19]...)
	for code, ops := range codes {
		for _, o := range ops {
			checkNoPlan(t, "some words", someKept(), o, code)
			// Whether there is room is asked only of what can be done.
			checkNoPlan(t, "no line is free", full, o, code)
		}
	}
	checkFree(t, full, impl.IntsResult{})
	checkNoPlan(t, "no line is free", full, makeFile("/a"), impl.ErrTaken)
}

func TestTheNextUidIsAskedOfWhatIsMadeAloneAndBehindTheModel(t *testing.T) {
	words := imageOf(9, fileBlock(999, 0, "e", 0, 7), dirBlock(1, 0, "a", 7))
	checkNoPlan(t, "no Uid is left", words, makeFile("/new"), impl.ErrFull)
	checkNoPlan(t, "no Uid is left", words, makeDir("/a/new"), impl.ErrFull)
	checkNoPlan(t, "no Uid is left", words, makeDir("/e"), impl.ErrTaken)
	checkNoPlan(t, "no Uid is left", words, makeFile("/none/x"), impl.ErrNone)
	checkNoPlan(t, "no Uid is left", words, makeFile("/e/x"), impl.ErrForm)
	checkPlan(t, words, writeOp("/e", 0, 1, 2, 3, 4), pieceTurn(999, 0, 1, 2, 3, 4), nodeTurn(999, false, 0, "e", 1))
	checkPlan(t, words, dropOp("/e"), goneTurn(999))
	checkPlan(t, words, moveOp("/e", "/a/e"), nodeTurn(999, false, 1, "e", 0))
	checkPlan(t, words, cutOp("/e", 0))
	checkPlan(t, words, syncOp())
	last := imageOf(9, fileBlock(998, 0, "e", 0, 7))
	checkPlan(t, last, makeFile("/new"), nodeTurn(999, false, 0, "new", 0))
}

func checkSameChanges(t *testing.T, what string, a []impl.Change, b []impl.Change, want bool) {
	t.Helper()
	if impl.SameChanges(a, b) != want || impl.SameChanges(b, a) != want {
		t.Errorf("%s: SameChanges of %v and %v is not %v", what, a, b, want)
	}
}

func TestSameChangesSeesEachField(t *testing.T) {
	list := []impl.Change{
		{}, nodeTurn(1, true, 2, "a", 0), nodeTurn(3, false, 0, "b", 4), pieceTurn(1, 2, 1, 2, 3, 4), goneTurn(7), looseTurn(7, 3),
		{Kind: -9, Uid: 5000, Index: -1, Node: impl.Node{Uid: -4, Parent: 9, Name: "no name\xff", Size: 77}, Numbers: []int64{-1, 1 << 60}},
	}
	checkSameChanges(t, "a copy", list, copyOfChanges(list), true)
	for i, c := range list {
		checkSameChanges(t, "a copy", list[i:i+1], copyOfChanges(list[i:i+1]), true)
		for _, turned := range changeTurns(c) {
			other := copyOfChanges(list)
			other[i] = turned
			checkSameChanges(t, "one that is turned among others", list, other, false)
			checkSameChanges(t, "one that is turned", list[i:i+1], other[i:i+1], false)
		}
	}
}

func TestSameChangesSeesOrderAndHowMany(t *testing.T) {
	a, b := goneTurn(1), looseTurn(1, 0)
	checkSameChanges(t, "another order", []impl.Change{a, b}, []impl.Change{b, a}, false)
	checkSameChanges(t, "one fewer", []impl.Change{a, b}, []impl.Change{a}, false)
	checkSameChanges(t, "one fewer", []impl.Change{a, b}, []impl.Change{b}, false)
	checkSameChanges(t, "one twice", []impl.Change{a, a}, []impl.Change{a}, false)
	checkSameChanges(t, "none", []impl.Change{a}, nil, false)
	checkSameChanges(t, "a zero one and none", []impl.Change{{}}, nil, false)
	checkSameChanges(t, "nil and nil", nil, nil, true)
	checkSameChanges(t, "nil and empty", nil, []impl.Change{}, true)
	checkSameChanges(t, "Numbers that are nil and empty", []impl.Change{{Kind: 2, Numbers: nil}}, []impl.Change{{Kind: 2, Numbers: []int64{}}}, true)
}
