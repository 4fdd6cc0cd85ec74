package tests

import (
	"math"
	"slices"
	"testing"

	"loop.example/g00691/impl"
)

func checkNow(t *testing.T, what string, notes []impl.Note, want ...impl.Item) {
	t.Helper()
	checkItemsResult(t, what, impl.ItemsNow(notes), impl.ItemsResult{Items: want})
	checkAudit(t, what, notes, 2, 3, 4, 5, 6, 9999)
}

// checkAfter: what there would be is what there is behind such a NoteUp.
func checkAfter(t *testing.T, what string, notes []impl.Note, clock int64, want ...impl.Item) {
	t.Helper()
	checkItemsResult(t, what, impl.ItemsAfter(notes, clock), impl.ItemsResult{Items: want})
	checkNow(t, what+", then", slices.Concat(notes, notesOf(upNote(clock))), want...)
}

func TestNoNotes(t *testing.T) {
	for _, notes := range [][]impl.Note{nil, {}} {
		checkNow(t, "no notes", notes)
		checkAfter(t, "no notes", notes, 2)
		checkSynced(t, "no notes", notes, impl.IntResult{})
		checkIsExplained(t, "no notes", notes, true)
	}
}

func TestEachKindOfMutationTurnsWhatThereIs(t *testing.T) {
	made := doneIn(2, makeDir("/d"), makeFile("/a"))
	checkNow(t, "made", made, impl.Item{Path: "/a"}, dirItem("/d"))
	written := slices.Concat(made, doneIn(2, writeOp("/a", 0, 1, 2, 3, 4), writeOp("/a", 1, 5, 6, 7, 8)))
	checkNow(t, "written", written, impl.Item{Path: "/a", Data: []int64{1, 2, 3, 4, 5, 6, 7, 8}}, dirItem("/d"))
	checkNow(t, "cut", slices.Concat(written, doneIn(2, cutOp("/a", 1))), impl.Item{Path: "/a", Data: []int64{1, 2, 3, 4}}, dirItem("/d"))
	checkNow(t, "dropped", slices.Concat(written, doneIn(2, dropOp("/a"))), dirItem("/d"))
	checkNow(t, "moved", slices.Concat(written, doneIn(2, moveOp("/a", "/d/b"))), dirItem("/d"), impl.Item{Path: "/d/b", Data: []int64{1, 2, 3, 4, 5, 6, 7, 8}})
	checkNow(t, "all", slices.Concat(written, doneIn(2, moveOp("/a", "/d/b"), cutOp("/d/b", 0), moveOp("/d", "/e"), dropOp("/e/b"))), dirItem("/e"))
	// Neither the thread nor the beginning nor the epoch matters to what there is now.
	for who := range int64(4) {
		checkNow(t, "a thread", notesOf(endNote(who, makeFile("/a"), 9999-who), endNote(3-who, makeFile("/b"), who)), impl.Item{Path: "/a"}, impl.Item{Path: "/b"})
	}
	// A Reply that no mutation has does not keep it from being one.
	checkNow(t, "an odd reply", notesOf(repliedNote(makeFile("/a"), impl.Reply{Numbers: []int64{1}, Names: []string{"b"}})), impl.Item{Path: "/a"})
}

func TestWhatIsNoMutationTurnsNothing(t *testing.T) {
	made := doneIn(2, makeFile("/a"))
	file := impl.Item{Path: "/a"}
	for code := int64(1); code <= 9; code++ {
		for _, o := range []impl.Op{makeFile("/b"), makeFile("/a"), writeOp("/a", 0, 1, 2, 3, 4), cutOp("/a", 0), dropOp("/a"), moveOp("/a", "/b")} {
			checkNow(t, "an end with a code", slices.Concat(made, notesOf(codeNote(o, code))), file)
		}
	}
	for _, o := range []impl.Op{syncOp(), readOp("/a"), readOp("/none"), listOp("/"), listOp("/a")} {
		for code := range int64(10) {
			checkNow(t, "what only asks", slices.Concat(made, notesOf(codeNote(o, code))), file)
		}
	}
	for _, o := range []impl.Op{makeFile("/b"), dropOp("/a"), moveOp("/a", "/b"), syncOp(), listOp("/")} {
		checkNow(t, "a beginning", slices.Concat(made, notesOf(beginNote(1, o))), file)
	}
	checkNow(t, "a crash", slices.Concat(made, notesOf(crashNote())), file)
}

func TestAMutationThatCannotBeDoneLeavesNothing(t *testing.T) {
	made := doneIn(2, makeDir("/a"), makeFile("/a/b"), makeFile("/c"))
	for _, o := range []impl.Op{makeFile("/"), makeFile("/c"), makeFile("/none/a"), makeFile("/c/a"), writeOp("/none", 0, 1, 2, 3, 4), writeOp("/c", 1, 1, 2, 3, 4), cutOp("/c", 1), dropOp("/a"), dropOp("/none"), moveOp("/a", "/a/d"), moveOp("/a", "/c")} {
		checkNow(t, "not done", slices.Concat(made, doneIn(2, o)))
		checkNow(t, "and then done", slices.Concat(made, doneIn(2, o, makeFile("/e"))), impl.Item{Path: "/e"})
		checkNow(t, "what was is gone", slices.Concat(made, doneIn(2, o, makeFile("/c"))), impl.Item{Path: "/c"})
		// What a crash does not leave is not done anew.
		checkNow(t, "not sure", slices.Concat(made, doneIn(3, o), again(4)), dirItem("/a"), impl.Item{Path: "/a/b"}, impl.Item{Path: "/c"})
		checkNow(t, "sure", slices.Concat(made, doneIn(3, o), again(5)))
	}
	var crowded []impl.Note
	for _, item := range crowd(60) {
		crowded = append(crowded, endNote(0, makeFile(item.Path), 2))
	}
	checkItemsResult(t, "a crowd", impl.ItemsNow(crowded), impl.ItemsResult{Items: crowd(60)})
	checkItemsResult(t, "one more than a crowd", impl.ItemsNow(append(crowded, endNote(0, makeFile("/zzz"), 2))), impl.ItemsResult{})
}

func TestWhatIsSureWhenItComesUp(t *testing.T) {
	for _, clock := range []int64{5, 100, 9999} {
		era := slices.Concat(doneIn(clock-3, makeFile("/a")), doneIn(clock-2, makeFile("/b")), doneIn(clock-1, makeFile("/c")), doneIn(clock, makeFile("/d")))
		checkAfter(t, "the epochs near the clock", era, clock, impl.Item{Path: "/a"}, impl.Item{Path: "/b"})
		checkAfter(t, "a clock less", era, clock-1, impl.Item{Path: "/a"})
		checkAfter(t, "two less", era, clock-2)
		checkNow(t, "behind a crash", slices.Concat(era, again(clock)), impl.Item{Path: "/a"}, impl.Item{Path: "/b"})
		checkNow(t, "without a crash", slices.Concat(era, notesOf(upNote(clock))), impl.Item{Path: "/a"}, impl.Item{Path: "/b"})
	}
	zeros := doneIn(0, makeFile("/a"))
	checkAfter(t, "the first clock", zeros, 2, impl.Item{Path: "/a"})
	for clock, want := range map[int64][]impl.Item{0: nil, 1: nil, 2: {{Path: "/a"}}, 3: {{Path: "/a"}}, 9999: {{Path: "/a"}}} {
		checkNow(t, "an up that no world makes", slices.Concat(zeros, notesOf(upNote(clock))), want...)
	}
	// By their epochs, not by their places.
	turned := slices.Concat(doneIn(9, makeFile("/a")), doneIn(3, makeFile("/b")), doneIn(9, makeFile("/c")), doneIn(2, makeFile("/d")))
	checkAfter(t, "epochs that fall", turned, 5, impl.Item{Path: "/b"}, impl.Item{Path: "/d"})
	// Ends with a code are none of these, whatever their Epoch is.
	refused := codeNote(makeFile("/b"), impl.ErrFull)
	checkAfter(t, "refused", slices.Concat(zeros, notesOf(refused)), 9, impl.Item{Path: "/a"})
}

func TestWhatStandsOnWhatIsLeftOut(t *testing.T) {
	file := impl.Item{Path: "/a", Data: []int64{1, 2, 3, 4}}
	left := slices.Concat(doneIn(2, makeFile("/a"), writeOp("/a", 0, 1, 2, 3, 4)), doneIn(4, makeDir("/d")), doneIn(3, makeFile("/d/b")), doneIn(2, makeFile("/z")))
	// Without the directory the file in it cannot be made, and what was ahead of it is gone.
	checkAfter(t, "the directory is left out", left, 5, impl.Item{Path: "/z"})
	checkAfter(t, "both are left out", left, 4, file, impl.Item{Path: "/z"})
	checkAfter(t, "none is left out", left, 6, file, dirItem("/d"), impl.Item{Path: "/d/b"}, impl.Item{Path: "/z"})
	// A drop that is left out: what was made anew is there already.
	twice := slices.Concat(doneIn(2, makeFile("/a")), doneIn(4, dropOp("/a")), doneIn(3, makeFile("/a"), makeFile("/b")))
	checkAfter(t, "the drop is left out", twice, 5, impl.Item{Path: "/b"})
	checkAfter(t, "the drop is sure", twice, 6, impl.Item{Path: "/a"}, impl.Item{Path: "/b"})
	// What is left out does not come back: the next era goes on from what was left.
	checkNow(t, "the next era", slices.Concat(left, again(5), doneIn(5, makeDir("/d")), doneIn(5, makeFile("/d/c"))), dirItem("/d"), impl.Item{Path: "/d/c"}, impl.Item{Path: "/z"})
}

func TestErasOneBehindTheOther(t *testing.T) {
	first := slices.Concat(doneIn(2, makeFile("/a")), doneIn(3, makeFile("/b")), again(4))
	checkNow(t, "one era", first, impl.Item{Path: "/a"})
	second := slices.Concat(first, doneIn(4, makeFile("/c")), doneIn(5, makeFile("/b"), dropOp("/a")))
	checkNow(t, "in the second one", second, impl.Item{Path: "/b"}, impl.Item{Path: "/c"})
	// What there was when it began stays, however little is sure.
	checkAfter(t, "nothing of it is sure", second, 5, impl.Item{Path: "/a"})
	checkAfter(t, "some of it is sure", second, 6, impl.Item{Path: "/a"}, impl.Item{Path: "/c"})
	checkAfter(t, "all of it is sure", second, 7, impl.Item{Path: "/b"}, impl.Item{Path: "/c"})
	third := slices.Concat(second, again(6), doneIn(6, writeOp("/c", 0, 1, 2, 3, 4)), doneIn(7, moveOp("/c", "/x")))
	checkAfter(t, "a third one", third, 8, impl.Item{Path: "/a"}, impl.Item{Path: "/c", Data: []int64{1, 2, 3, 4}})
	checkAfter(t, "a third one, with a lesser clock than the second", third, 2, impl.Item{Path: "/a"}, impl.Item{Path: "/c"})
	// Of an era ahead nothing is told again: /b of the epoch 3 was lost for ever.
	checkAfter(t, "what was lost", slices.Concat(first, doneIn(4, makeFile("/d"))), 9999, impl.Item{Path: "/a"}, impl.Item{Path: "/d"})
}

func TestUpsOneBehindTheOther(t *testing.T) {
	era := slices.Concat(doneIn(2, makeFile("/a")), doneIn(3, makeFile("/b")))
	for _, clock := range []int64{2, 4, 5, 9999} {
		checkNow(t, "two ups", slices.Concat(era, again(4), notesOf(upNote(clock))), impl.Item{Path: "/a"})
		checkNow(t, "two ups, and a crash between", slices.Concat(era, again(4), again(clock)), impl.Item{Path: "/a"})
		checkNow(t, "three ups", slices.Concat(era, again(4), notesOf(upNote(clock), upNote(2))), impl.Item{Path: "/a"})
		checkNow(t, "the first one has all", slices.Concat(era, again(5), again(clock)), impl.Item{Path: "/a"}, impl.Item{Path: "/b"})
		checkNow(t, "the first one has nothing", slices.Concat(era, again(3), again(clock)))
	}
	checkNow(t, "ups alone", notesOf(upNote(2), upNote(3)))
}

func TestCrashesInOneEra(t *testing.T) {
	era := slices.Concat(doneIn(2, makeFile("/a")), doneIn(3, makeFile("/b")))
	down := slices.Concat(era, notesOf(crashNote()))
	// A crash alone turns nothing: what it leaves is told where it comes up.
	checkNow(t, "no up behind it", down, impl.Item{Path: "/a"}, impl.Item{Path: "/b"})
	checkAfter(t, "no up behind it", down, 4, impl.Item{Path: "/a"})
	twice := slices.Concat(down, notesOf(crashNote(), crashNote()))
	checkNow(t, "more of them", twice, impl.Item{Path: "/a"}, impl.Item{Path: "/b"})
	checkAfter(t, "more of them", twice, 4, impl.Item{Path: "/a"})
	// What would be done between two crashes, which no world does, is of the same era.
	between := slices.Concat(down, doneIn(2, makeFile("/c")), doneIn(3, makeFile("/d")), notesOf(crashNote()))
	checkNow(t, "a mutation between two", between, impl.Item{Path: "/a"}, impl.Item{Path: "/b"}, impl.Item{Path: "/c"}, impl.Item{Path: "/d"})
	checkAfter(t, "a mutation between two", between, 4, impl.Item{Path: "/a"}, impl.Item{Path: "/c"})
}

func TestTheClocksOfItemsAfter(t *testing.T) {
	era := slices.Concat(doneIn(0, makeFile("/a")), doneIn(9997, makeFile("/b")), doneIn(9998, makeFile("/c")))
	for _, notes := range [][]impl.Note{nil, era, again(9), rightNotes()} {
		for _, clock := range []int64{math.MinInt64, math.MinInt64 + 1, math.MinInt64 + 2, -1, 0, 1, 10000, 10001, math.MaxInt64 - 1, math.MaxInt64} {
			checkItemsResult(t, "no clock", impl.ItemsAfter(notes, clock), impl.ItemsResult{Code: impl.ErrRange})
		}
	}
	checkAfter(t, "the first clock", era, 2, impl.Item{Path: "/a"})
	checkAfter(t, "the last clock but one", era, 9998, impl.Item{Path: "/a"})
	checkAfter(t, "the last clock", era, 9999, impl.Item{Path: "/a"}, impl.Item{Path: "/b"})
	for clock := int64(2); clock <= 9999; clock++ {
		if got := impl.ItemsAfter(era, clock); got.Code != 0 || len(got.Items) != 1 && clock < 9999 {
			t.Fatalf("ItemsAfter of %d is %+v", clock, got)
		}
	}
}

func TestAsManyNotesAsThereMayBe(t *testing.T) {
	var notes []impl.Note
	for range 150 {
		notes = append(notes, doneIn(2, makeFile("/a"), writeOp("/a", 0, 1, 2, 3, 4), dropOp("/a"))...)
		notes = append(notes, crashNote())
	}
	checkItemsResult(t, "600", impl.ItemsNow(notes), impl.ItemsResult{})
	notes[598] = endNote(0, writeOp("/a", 0, 4, 3, 2, 1), 3)
	checkItemsResult(t, "600", impl.ItemsNow(notes), impl.ItemsResult{Items: []impl.Item{{Path: "/a", Data: []int64{4, 3, 2, 1}}}})
	// No NoteUp has room behind these, but what there would be is told.
	checkItemsResult(t, "600", impl.ItemsAfter(notes, 4), impl.ItemsResult{Items: []impl.Item{{Path: "/a", Data: []int64{1, 2, 3, 4}}}})
	checkItemsResult(t, "600", impl.ItemsAfter(notes, 5), impl.ItemsResult{Items: []impl.Item{{Path: "/a", Data: []int64{4, 3, 2, 1}}}})
	checkSynced(t, "600", notes, impl.IntResult{})
	checkCodeOfNotes(t, "601", append(notes, upNote(4)), impl.ErrMany)
}
