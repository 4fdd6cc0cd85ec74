package tests

import (
	"math"
	"math/rand"
	"slices"
	"testing"

	"loop.example/g00691/impl"
)

func checkApplied(t *testing.T, words []int64, o impl.Op, want []int64) {
	t.Helper()
	checkWordsResult(t, "ApplyOp", impl.ApplyOp(words, o), impl.ImageResult{Words: want})
}

// applied: the words behind an op that has no code.
func applied(t *testing.T, words []int64, o impl.Op) []int64 {
	t.Helper()
	got := impl.ApplyOp(words, o)
	if got.Code != 0 {
		t.Fatalf("ApplyOp of %v has the code %d", o, got.Code)
	}
	return got.Words
}

func pieceWords(uid int64, index int64, epoch int64, list ...int64) []int64 {
	return made(packDataByRule(uid, index, list, epoch))
}

func TestAChangeIsLaidIntoTheLowestFreeLine(t *testing.T) {
	words := someKept()
	checkApplied(t, words, makeFile("/a/new"), laid(words, 1, fileBlock(42, 5, "new", 0, 9)))
	checkApplied(t, words, makeDir("/new"), laid(words, 1, dirBlock(42, 0, "new", 9)))
	checkApplied(t, words, writeOp("/a/f", 1, 1, 2, 3, 4), laid(words, 1, pieceWords(8, 1, 9, 1, 2, 3, 4)))
	checkApplied(t, words, dropOp("/ab"), laid(words, 1, goneBlock(9, 9)))
	checkApplied(t, words, moveOp("/a/b", "/z/x"), laid(words, 1, dirBlock(3, 12, "x", 9)))
	// The same block, but the line 1 is not free any more.
	words = laid(words, 1, dirBlock(700, 0, "taken", 3))
	checkApplied(t, words, dropOp("/e"), laid(words, 7, goneBlock(2, 9)))
	words = laid(words, 7, dirBlock(701, 0, "too", 3))
	checkApplied(t, words, dropOp("/e"), laid(words, 19, goneBlock(2, 9)))
	words = laid(words, 19, dirBlock(702, 0, "all", 3))
	checkApplied(t, words, dropOp("/e"), laid(words, 20, goneBlock(2, 9)))
}

func TestALineIsFreeByItsFirstWordWhateverItsOtherWordsAre(t *testing.T) {
	for line := 1; line < 41; line++ {
		// All other lines are taken, so the one that is free is found wherever it stands.
		words := emptyImage(41, 9)
		for other := 1; other < 41; other++ {
			words = laid(words, other, fileBlock(int64(other), 0, uidName(int64(other)), 0, 3))
		}
		words[8*line] = 0
		node := fileBlock(41, 0, "new", 0, 9)
		if line == 40 {
			node = fileBlock(40, 0, "new", 0, 9)
		}
		checkApplied(t, words, makeFile("/new"), laid(words, line, node))
		checkApplied(t, laid(words, line, freeBlock()), makeFile("/new"), laid(words, line, node))
		highest := []int64{0, noWord - 1, noWord - 1, noWord - 1, noWord - 1, noWord - 1, noWord - 1, noWord - 1}
		checkApplied(t, laid(words, line, highest), makeFile("/new"), laid(words, line, node))
	}
}

func TestSeveralChangesTakeLinesOneBehindTheOther(t *testing.T) {
	words := someKept()
	more := laid(words, 1, pieceWords(2, 0, 9, 1, 2, 3, 4))
	checkApplied(t, words, writeOp("/e", 0, 1, 2, 3, 4), laid(more, 7, fileBlock(2, 0, "e", 1, 9)))
	words = laid(words, 1, dirBlock(40, 0, "taken", 3))
	more = laid(words, 7, pieceWords(8, 2, 9, 0, 0, 0, 0))
	checkApplied(t, words, writeOp("/a/f", 2, 0, 0, 0, 0), laid(more, 19, fileBlock(8, 5, "f", 3, 9)))
	words = laid(words, 7, dirBlock(39, 0, "too", 3))
	more = laid(words, 19, pieceWords(41, 1, 9, 9999, 0, 0, 1))
	checkApplied(t, words, writeOp("/a/b/c/d", 1, 9999, 0, 0, 1), laid(more, 20, fileBlock(41, 30, "d", 2, 9)))
}

func TestALoosePieceOfAnOlderEpochStaysAsItWas(t *testing.T) {
	words := someKept()
	checkApplied(t, words, cutOp("/a/f", 1), laid(words, 1, fileBlock(8, 5, "f", 1, 9)))
	checkApplied(t, words, cutOp("/a/f", 0), laid(words, 1, fileBlock(8, 5, "f", 0, 9)))
	checkApplied(t, words, cutOp("/z/y", 0), laid(words, 1, fileBlock(20, 12, "y", 0, 9)))
	checkApplied(t, words, dropOp("/a/f"), laid(words, 1, goneBlock(8, 9)))
	checkApplied(t, words, dropOp("/z/y"), laid(words, 1, goneBlock(20, 9)))
}

func TestJustAsManyLinesFreeAsAChangeTakesAndOneFewer(t *testing.T) {
	r := rand.New(rand.NewSource(43))
	needs := map[int64][]impl.Op{
		0: {cutOp("/e", 0), cutOp("/z/y", 4), readOp("/z/y"), listOp("/"), syncOp()},
		1: {makeFile("/x"), makeDir("/ab/x"), writeOp("/z/y", 3, 1, 2, 3, 4), cutOp("/z/y", 0), cutOp("/a/f", 1), dropOp("/e"), dropOp("/z/y"), dropOp("/ab"), moveOp("/a", "/x"), moveOp("/e", "/z/e")},
		2: {writeOp("/e", 0, 1, 2, 3, 4), writeOp("/a/f", 2, 1, 2, 3, 4), writeOp("/a/b/c/d", 1, 1, 2, 3, 4)},
	}
	for need, ops := range needs {
		for _, o := range ops {
			for free := range int64(5) {
				words := tight(r, someKept(), int(free))
				checkNeed(t, "however many lines are free", impl.NeedOf(words, o), impl.IntResult{Value: need})
				got := impl.ApplyOp(words, o)
				if free < need {
					checkWordsResult(t, "fewer lines are free", got, impl.ImageResult{Code: impl.ErrFull})
				} else if got.Code != 0 {
					t.Errorf("%d lines are free, and %v has the code %d", free, o, got.Code)
				}
			}
		}
	}
}

func TestAnOpBehindAnotherOneThatIsNotSureYet(t *testing.T) {
	words := emptyImage(6, 2)
	made := applied(t, words, makeDir("/a"))
	for _, clock := range []int64{2, 3} {
		for _, o := range append(oneOfEachKind(), makeFile("/a/f"), dropOp("/a"), impl.Op{}) {
			checkNoPlan(t, "the directory is not sure yet", ofClock(made, clock), o, impl.ErrState)
		}
	}
	sure := ofClock(made, 4)
	checkPlan(t, sure, makeFile("/a/f"), nodeTurn(2, false, 1, "f", 0))
	checkNoPlan(t, "the directory is sure", sure, makeDir("/a"), impl.ErrTaken)
	with := applied(t, sure, makeFile("/a/f"))
	checkWordsResult(t, "the file", impl.ImageResult{Words: with}, impl.ImageResult{Words: laid(sure, 2, fileBlock(2, 1, "f", 0, 4))})
	written := applied(t, ofClock(with, 6), writeOp("/a/f", 0, 1, 2, 3, 4))
	checkTreeOf(t, "the piece is not sure yet", ofClock(written, 7), dirItem("/a"), impl.Item{Path: "/a/f"})
	checkTreeOf(t, "the piece is sure", ofClock(written, 8), dirItem("/a"), impl.Item{Path: "/a/f", Data: []int64{1, 2, 3, 4}})
	// The node of the empty file is dead now, so nothing can be done until its line is free.
	checkNoPlan(t, "an older version is dead", ofClock(written, 8), dropOp("/a/f"), impl.ErrState)
	checkPlan(t, swept(ofClock(written, 8)), dropOp("/a/f"), goneTurn(2), looseTurn(2, 0))
}

func TestClocks(t *testing.T) {
	words := someKept()
	for _, clock := range []int64{9, 10, 11, 500, 9998, 9999} {
		checkWordsResult(t, "a later clock", impl.ClockTo(words, clock), impl.ImageResult{Words: ofClock(words, clock)})
	}
	for _, clock := range []int64{math.MinInt64, -1, 0, 1, 2, 7, 8, 10000, 10001, math.MaxInt64} {
		checkWordsResult(t, "a clock that is none", impl.ClockTo(words, clock), impl.ImageResult{Code: impl.ErrRange})
	}
	last := emptyImage(2, 9999)
	checkWordsResult(t, "the last clock", impl.ClockTo(last, 9999), impl.ImageResult{Words: last})
	checkWordsResult(t, "below the last clock", impl.ClockTo(last, 9998), impl.ImageResult{Code: impl.ErrRange})
	checkWordsResult(t, "above the last clock", impl.ClockTo(last, 10000), impl.ImageResult{Code: impl.ErrRange})
	first := emptyImage(41, 2)
	checkWordsResult(t, "the first clock", impl.ClockTo(first, 2), impl.ImageResult{Words: first})
	checkWordsResult(t, "below the first clock", impl.ClockTo(first, 1), impl.ImageResult{Code: impl.ErrRange})
	// Whatever the lines are, they stay.
	for _, block := range [][]int64{{5}, withRest(dirBlock(1, 0, "a", 3), 3), dirBlock(1, 2, "a", 3), freeBlock(), slices.Repeat([]int64{noWord - 1}, 8)} {
		odd := imageOf(5, block, block)
		odd[5] = noWord - 1
		checkWordsResult(t, "any lines", impl.ClockTo(odd, 6), impl.ImageResult{Words: ofClock(odd, 6)})
	}
}

func TestEachCodeOfTheClockIsAskedAheadOfTheNewOne(t *testing.T) {
	for _, clock := range []int64{math.MinInt64, 0, 4, 5, 6, 9999, 10000, math.MaxInt64} {
		wrong := func(what string, words []int64, code int64) {
			t.Helper()
			checkWordsResult(t, what, impl.ClockTo(words, clock), impl.ImageResult{Code: code})
		}
		wrong("nil", nil, impl.ErrMany)
		wrong("one line", emptyImage(1, 5), impl.ErrMany)
		wrong("42 lines", emptyImage(42, 5), impl.ErrMany)
		wrong("no whole lines", emptyImage(3, 5)[:23], impl.ErrMany)
		wrong("a number that is no word", imageOf(5, []int64{0, 0, 0, 0, 0, 0, 0, noWord}), impl.ErrRange)
		wrong("no Magic", make([]int64, 16), impl.ErrState)
		wrong("a clock below the first one", emptyImage(2, 1), impl.ErrRange)
		wrong("a clock above the last epoch", emptyImage(2, 10000), impl.ErrRange)
	}
}

// checkPromise: what an op leaves is not sure at first, and just what was wanted when the clock is two more; it answers the code of ApplyOp.
func checkPromise(t *testing.T, words []int64, o impl.Op) int64 {
	t.Helper()
	before, plan, got := impl.TreeOf(words), impl.PlanOp(words, o), impl.ApplyOp(words, o)
	free := int64(len(impl.FreeIn(words).List))
	isFull := plan.Code == 0 && free < impl.NeedOf(words, o).Value
	if plan.Code == 0 && (got.Code == impl.ErrFull) != isFull || plan.Code != 0 && got.Code != plan.Code {
		t.Fatalf("ApplyOp of %v has the code %d: PlanOp has %d, and %d lines are free: %v", o, got.Code, plan.Code, free, words)
	}
	if got.Code != 0 {
		return got.Code
	}
	checkItemsResult(t, "at first", impl.TreeOf(got.Words), before)
	checkStays(t, words, got.Words)
	wanted := impl.DoModel(before.Items, o)
	for _, more := range []int64{1, 2} {
		later := impl.ClockTo(got.Words, words[1]+more)
		if words[1]+more > impl.MaxEpoch {
			checkWordsResult(t, "there is no such clock", later, impl.ImageResult{Code: impl.ErrRange})
			continue
		}
		want := before
		if more == 2 {
			want = impl.ItemsResult{Items: wanted.Items}
		}
		checkItemsResult(t, "later", impl.TreeOf(later.Words), want)
	}
	return impl.OK
}

// checkStays: the lines that are turned were free, and no free line ahead of them is left.
func checkStays(t *testing.T, words []int64, after []int64) {
	t.Helper()
	if len(words) != len(after) || !slices.Equal(words[:8], after[:8]) {
		t.Fatalf("the first line or how many there are was turned: %v, %v", words, after)
	}
	isLeft := false
	for line := 1; line < len(words)/8; line++ {
		from, to := 8*line, 8*line+8
		isTurned := !slices.Equal(words[from:to], after[from:to])
		if isTurned && (words[from] != 0 || isLeft) {
			t.Fatalf("the line %d was turned: %v, %v", line, words, after)
		}
		isLeft = isLeft || after[from] == 0
	}
}

func TestWhatIsChangedIsNotSureAtFirstAndIsWhatWasWantedThen(t *testing.T) {
	r := rand.New(rand.NewSource(44))
	// seen: of each kind of op how often ApplyOp had which code.
	seen := map[int64]map[int64]int{}
	for range 2500 {
		words := anyKept(r)
		for range 6 {
			o := opOn(r, words)
			if seen[o.Kind] == nil {
				seen[o.Kind] = map[int64]int{}
			}
			seen[o.Kind][checkPromise(t, words, o)]++
		}
	}
	for kind := int64(impl.OpMake); kind <= impl.OpMove; kind++ {
		checkSeen(t, seen[kind], impl.OK, impl.ErrFull)
	}
	for kind := int64(impl.OpRead); kind <= impl.OpSync; kind++ {
		checkSeen(t, seen[kind], impl.OK)
	}
}

func TestOpsOneBehindTheOtherWithTheClockTwoMoreEachTime(t *testing.T) {
	r := rand.New(rand.NewSource(45))
	done := 0
	for range 200 {
		words := emptyImage(4+r.Intn(38), 2+r.Int63n(3))
		var items []impl.Item
		for range 40 {
			o := anyOp(r, items)
			// What is not made more often than dropped would never grow.
			if r.Intn(3) == 0 {
				o = impl.Op{Kind: impl.OpMake, Path: pathNear(r, items), Dir: r.Intn(2) > 0}
			}
			if checkPromise(t, words, o) != 0 {
				continue
			}
			items = doByRule(items, o).Items
			words = swept(impl.ClockTo(impl.ApplyOp(words, o).Words, words[1]+2).Words)
			checkItemsResult(t, "behind all ops", impl.TreeOf(words), impl.ItemsResult{Items: items})
			done++
		}
	}
	if done < 1000 {
		t.Errorf("only %d ops were done", done)
	}
}

func TestTheClockIsNeverLessAndWhatWasSureStaysSure(t *testing.T) {
	r := rand.New(rand.NewSource(46))
	later := 0
	for range 2000 {
		words := anyImage(r)
		got := impl.ClockTo(words, words[1]-2+r.Int63n(6))
		if got.Code != 0 {
			continue
		}
		before, after := impl.ClockOf(words).Value, impl.ClockOf(got.Words)
		if after.Code != 0 || after.Value < before {
			t.Fatalf("the clock was %d and is %+v", before, after)
		}
		for _, v := range impl.VersionsIn(words).Versions {
			if epoch := v.Block.Head.Epoch; epoch <= before-2 && epoch > after.Value-2 {
				t.Fatalf("the epoch %d was sure by the clock %d, and is not by %d", epoch, before, after.Value)
			}
		}
		if live := impl.LiveOf(words); len(live.Dead) == 0 {
			now := impl.LiveOf(got.Words)
			if !sameVersions(live.Nodes, now.Nodes) || !sameVersions(live.Datas, now.Datas) || len(now.Dead) > 0 {
				t.Fatalf("what lived does not live by the clock %d: %v", after.Value, words)
			}
		}
		later++
	}
	if later < 500 {
		t.Errorf("only %d clocks were later", later)
	}
}
