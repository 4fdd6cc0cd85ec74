package tests

import (
	"math/rand"
	"slices"
	"testing"

	"loop.example/g00691/impl"
)

// checkEachLine: each line but the first one is free, or lives, or is dead, and just one of these; what lives is sure.
func checkEachLine(t *testing.T, words []int64) {
	t.Helper()
	live := impl.LiveOf(words)
	if live.Code != impl.OK {
		return
	}
	free := impl.FreeIn(words)
	if free.Code != impl.OK {
		t.Fatalf("LiveOf of %v has no code, but FreeIn has %d", words, free.Code)
	}
	times := make([]int, len(words)/8)
	for _, line := range slices.Concat(free.List, live.Dead) {
		times[line]++
	}
	for _, v := range slices.Concat(live.Nodes, live.Datas) {
		times[v.Line]++
		if v.Block.Head.Epoch > live.Clock-2 {
			t.Fatalf("%+v lives and is not sure: the clock is %d", v, live.Clock)
		}
	}
	for line, many := range times {
		if line == 0 && many != 0 || line > 0 && many != 1 {
			t.Fatalf("the line %d of %v is told %d times: free %v, live %+v", line, words, many, free.List, live)
		}
	}
}

func TestEachLineIsFreeOrLivesOrIsDeadAndWhatLivesIsSure(t *testing.T) {
	r := rand.New(rand.NewSource(27))
	seen := map[int64]int{}
	for range 2000 {
		words := anyImage(r)
		checkEachLine(t, words)
		for range 3 {
			line := 1 + r.Intn(len(words)/8-1)
			copy(words[8*line:8*line+8], anySmallBlock(r, words[1]))
			words[1] = max(2, min(words[1]+r.Int63n(3)-1, 9999))
			checkEachLine(t, words)
			seen[impl.LiveOf(words).Code]++
		}
	}
	checkSeen(t, seen, impl.OK)
}

// told: the lines that live and those that are dead, in the order in which they are told.
type told struct {
	nodes []int64
	datas []int64
	dead  []int64
}

func lines(list ...int64) []int64 {
	return list
}

func linesOf(versions []impl.Version) []int64 {
	var list []int64
	for _, v := range versions {
		list = append(list, v.Line)
	}
	return list
}

// checkTold: these lines live or are dead, and what lives is the block that stands in its line.
func checkTold(t *testing.T, what string, words []int64, want told) {
	t.Helper()
	checkImage(t, words)
	got := impl.LiveOf(words)
	isSame := got.Code == impl.OK && got.Clock == words[1] && slices.Equal(linesOf(got.Nodes), want.nodes) &&
		slices.Equal(linesOf(got.Datas), want.datas) && slices.Equal(got.Dead, want.dead)
	if !isSame {
		t.Fatalf("%s: LiveOf = %+v, want %+v", what, got, want)
	}
	for _, v := range slices.Concat(got.Nodes, got.Datas) {
		if read := readByRule(words[8*v.Line : 8*v.Line+8]); !sameBlockByRule(read.Block, v.Block) {
			t.Fatalf("%s: of the line %d there is told %+v, want %+v", what, v.Line, v.Block, read.Block)
		}
	}
}

func checkLiveCode(t *testing.T, what string, words []int64, code int64) {
	t.Helper()
	checkImage(t, words)
	if got := impl.LiveOf(words); got.Code != code {
		t.Fatalf("%s: LiveOf = %+v, want the code %d", what, got, code)
	}
}

func TestConstantsOfWhatIsKept(t *testing.T) {
	if [2]int64{impl.Magic, impl.FirstClock} != [2]int64{691691691, 2} {
		t.Errorf("Magic is %d, FirstClock %d", impl.Magic, impl.FirstClock)
	}
}

func TestActsOfAFormatOfTwoAndOfThreeLines(t *testing.T) {
	checkActs(t, 2, impl.FormatActs(2), impl.ActsResult{Acts: []impl.Act{
		{Kind: impl.ActStore, At: 8, Value: 0}, {Kind: impl.ActFlush, At: 1}, {Kind: impl.ActFence},
		{Kind: impl.ActStore, At: 1, Value: 2}, {Kind: impl.ActFlush, At: 0}, {Kind: impl.ActFence},
		{Kind: impl.ActStore, At: 0, Value: 691691691}, {Kind: impl.ActFlush, At: 0}, {Kind: impl.ActFence},
	}})
	checkActs(t, 3, impl.FormatActs(3), impl.ActsResult{Acts: []impl.Act{
		{Kind: impl.ActStore, At: 8, Value: 0}, {Kind: impl.ActFlush, At: 1},
		{Kind: impl.ActStore, At: 16, Value: 0}, {Kind: impl.ActFlush, At: 2}, {Kind: impl.ActFence},
		{Kind: impl.ActStore, At: 1, Value: 2}, {Kind: impl.ActFlush, At: 0}, {Kind: impl.ActFence},
		{Kind: impl.ActStore, At: 0, Value: 691691691}, {Kind: impl.ActFlush, At: 0}, {Kind: impl.ActFence},
	}})
}

func TestActsOfAFormatOfAsManyLinesAsThereMayBe(t *testing.T) {
	acts := impl.FormatActs(impl.MaxLines).Acts
	if len(acts) != 87 {
		t.Fatalf("there are %d acts", len(acts))
	}
	for line := int64(1); line <= 40; line++ {
		pair := [2]impl.Act{acts[2*line-2], acts[2*line-1]}
		if pair != [2]impl.Act{{Kind: 1, At: 8 * line}, {Kind: 2, At: line}} {
			t.Errorf("of the line %d there are %v", line, pair)
		}
	}
	if !slices.Equal(acts[80:], impl.FormatActs(2).Acts[2:]) {
		t.Errorf("the last acts are %v", acts[80:])
	}
	for many := int64(2); many <= impl.MaxLines; many++ {
		checkActs(t, many, impl.FormatActs(many), formatByRule(many))
	}
}

func TestAFormatLeavesAnImageInWhichAllIsFree(t *testing.T) {
	for many := int64(2); many <= impl.MaxLines; many++ {
		d := newDevice(t, many)
		for i := range d.Words {
			d.Words[i] = 32017 + int64(i)
		}
		d = right(t, impl.DoActs(d, impl.FormatActs(many).Acts))
		var free []int64
		for line := int64(1); line < many; line++ {
			free = append(free, line)
		}
		checkClock(t, d.Words, impl.IntResult{Value: 2})
		checkVersions(t, d.Words, impl.VersionsResult{})
		checkFree(t, d.Words, impl.IntsResult{List: free})
		checkNext(t, d.Words, impl.IntResult{Value: 1})
		checkTold(t, "a format", d.Words, told{})
	}
}

func TestNodesAndPiecesAreToldByUidAndIndex(t *testing.T) {
	words := imageOf(9,
		pieceBlock(5, 1, 2), fileBlock(5, 7, "f", 3, 1), nil, pieceBlock(3, 0, 7), pieceBlock(5, 2, 4),
		dirBlock(7, 0, "d", 3), pieceBlock(5, 0, 7), fileBlock(3, 0, "f", 1, 7), fileBlock(999, 7, "g", 0, 5))
	checkTold(t, "nodes and pieces", words, told{nodes: lines(8, 2, 6, 9), datas: lines(4, 7, 1, 5)})
	checkFree(t, words, impl.IntsResult{List: lines(3, 10, 11)})
	if got := linesOf(impl.VersionsIn(words).Versions); !slices.Equal(got, lines(1, 2, 4, 5, 6, 7, 8, 9)) {
		t.Errorf("VersionsIn tells the lines %v", got)
	}
}

func TestOfEachThingTheNewestSureVersionLives(t *testing.T) {
	newer := [][2][]int64{
		{dirBlock(1, 0, "a", 3), dirBlock(1, 0, "b", 4)},
		{fileBlock(1, 0, "a", 4, 3), dirBlock(1, 0, "a", 9)},
		{dirBlock(1, 0, "a", 1), fileBlock(1, 0, "a", 0, 10)},
		{goneBlock(1, 1), dirBlock(1, 0, "a", 2)},
	}
	for _, pair := range newer {
		checkTold(t, "the newer one behind", imageOf(12, pair[0], pair[1]), told{nodes: lines(2), dead: lines(1)})
		checkTold(t, "the newer one ahead", imageOf(12, pair[1], pair[0]), told{nodes: lines(1), dead: lines(2)})
	}
	checkTold(t, "gone", imageOf(12, dirBlock(1, 0, "a", 3), goneBlock(1, 4)), told{dead: lines(1, 2)})
	checkTold(t, "gone", imageOf(12, goneBlock(1, 4), dirBlock(1, 0, "a", 3)), told{dead: lines(1, 2)})
	checkTold(t, "gone and there again", imageOf(12, goneBlock(1, 4), dirBlock(1, 0, "a", 5), dirBlock(1, 0, "a", 3)), told{nodes: lines(2), dead: lines(1, 3)})
	checkTold(t, "three pieces",
		imageOf(12, pieceBlock(1, 0, 5), pieceBlock(1, 0, 7), pieceBlock(1, 0, 6), fileBlock(1, 0, "a", 1, 1)),
		told{nodes: lines(4), datas: lines(2), dead: lines(1, 3)})
	checkTold(t, "the newest piece is not sure",
		imageOf(8, pieceBlock(1, 0, 5), pieceBlock(1, 0, 7), pieceBlock(1, 0, 6), fileBlock(1, 0, "a", 1, 1)),
		told{nodes: lines(4), datas: lines(3), dead: lines(1, 2)})
}

// pairsOfOneEpoch: each two tell of the same thing, in the same epoch.
func pairsOfOneEpoch(epoch int64) map[string][2][]int64 {
	return map[string][2][]int64{
		"two nodes":               {dirBlock(5, 0, "a", epoch), fileBlock(5, 0, "b", 0, epoch)},
		"the same node twice":     {dirBlock(5, 0, "a", epoch), dirBlock(5, 0, "a", epoch)},
		"a node that is gone":     {dirBlock(5, 0, "a", epoch), goneBlock(5, epoch)},
		"a file that is gone":     {goneBlock(5, epoch), fileBlock(5, 0, "a", 0, epoch)},
		"gone twice":              {goneBlock(5, epoch), goneBlock(5, epoch)},
		"two pieces":              {pieceBlock(5, 0, epoch), made(packDataByRule(5, 0, []int64{0, 0, 0, 1}, epoch))},
		"the same piece twice":    {pieceBlock(5, 3, epoch), pieceBlock(5, 3, epoch)},
		"a piece of nobody twice": {pieceBlock(999, 2, epoch), pieceBlock(999, 2, epoch)},
	}
}

func TestTwoSureVersionsOfOneEpochAreTaken(t *testing.T) {
	for _, epoch := range []int64{1, 2, 5, 9997} {
		for what, pair := range pairsOfOneEpoch(epoch) {
			checkLiveCode(t, what, imageOf(epoch+2, pair[0], pair[1]), impl.ErrTaken)
			checkLiveCode(t, what, imageOf(9999, pair[1], nil, pair[0]), impl.ErrTaken)
		}
	}
}

func TestTwoOldVersionsOfOneEpochAreTakenTooWhereANewerOneLives(t *testing.T) {
	for what, pair := range pairsOfOneEpoch(3) {
		checkLiveCode(t, what, imageOf(9, pair[0], dirBlock(5, 0, "c", 7), pair[1], pieceBlock(5, 0, 7), pieceBlock(5, 3, 7)), impl.ErrTaken)
		checkLiveCode(t, what, imageOf(9, goneBlock(5, 7), pieceBlock(999, 2, 7), pair[0], pair[1]), impl.ErrTaken)
	}
}

func TestTwoVersionsOfOneEpochThatAreNotSureAreDead(t *testing.T) {
	for _, epoch := range []int64{1, 2, 5, 9997, 9998} {
		for what, pair := range pairsOfOneEpoch(epoch) {
			checkTold(t, what, imageOf(epoch+1, pair[0], pair[1]), told{dead: lines(1, 2)})
			if epoch > 1 {
				checkTold(t, what, imageOf(epoch, pair[0], pair[1]), told{dead: lines(1, 2)})
			}
		}
	}
	// Two that are not sure leave the one that is.
	words := imageOf(6, dirBlock(1, 0, "b", 5), dirBlock(1, 0, "a", 4), goneBlock(1, 5))
	checkTold(t, "a sure one beside two new ones", words, told{nodes: lines(2), dead: lines(1, 3)})
}

func TestTwoVersionsOfTwoEpochsAreNotTaken(t *testing.T) {
	for what, older := range pairsOfOneEpoch(3) {
		newer := pairsOfOneEpoch(4)[what]
		for _, words := range [][]int64{imageOf(9, older[0], newer[1]), imageOf(9, newer[1], older[0]), imageOf(9, older[1], newer[0])} {
			if got := impl.LiveOf(words); got.Code != impl.OK {
				t.Errorf("%s: LiveOf = %+v", what, got)
			}
			checkImage(t, words)
		}
	}
}

func TestOtherThingsOfOneEpochAreNotTaken(t *testing.T) {
	checkTold(t, "a file and all its pieces",
		imageOf(7, fileBlock(5, 0, "a", 4, 5), pieceBlock(5, 0, 5), pieceBlock(5, 1, 5), pieceBlock(5, 2, 5), pieceBlock(5, 3, 5)),
		told{nodes: lines(1), datas: lines(2, 3, 4, 5)})
	checkTold(t, "two Uids",
		imageOf(7, dirBlock(5, 0, "a", 5), dirBlock(6, 0, "b", 5), goneBlock(7, 5), pieceBlock(7, 0, 5), pieceBlock(8, 0, 5)),
		told{nodes: lines(1, 2), dead: lines(3, 4, 5)})
	checkTold(t, "what is gone and its piece", imageOf(7, goneBlock(5, 5), pieceBlock(5, 0, 5)), told{dead: lines(1, 2)})
}

// newBlocks: heads of this epoch with words behind them that no block has, and right ones.
func newBlocks(epoch int64) map[string][]int64 {
	return map[string][]int64{
		"a right node":               dirBlock(8, 0, "a", epoch),
		"a right piece":              pieceBlock(8, 3, epoch),
		"a right gone one":           goneBlock(8, epoch),
		"a node without words":       withRest(dirBlock(8, 0, "a", epoch), 0, 0, 0, 0, 0, 0, 0),
		"a node of any words":        withRest(dirBlock(8, 0, "a", epoch), 1, 2, 3, 4, 5, 6, 7),
		"a node with great words":    withRest(dirBlock(8, 0, "a", epoch), noWord-1, noWord-1, noWord-1, noWord-1, noWord-1, noWord-1, noWord-1),
		"a node that is its parent":  withRest(dirBlock(8, 0, "a", epoch), 1, 8),
		"a piece with great numbers": withRest(pieceBlock(8, 3, epoch), 10000, noWord-1),
		"a piece with a word behind": withRest(pieceBlock(8, 3, epoch), 1, 2, 3, 4, 0, 0, 1),
		"a gone one with words":      withRest(goneBlock(8, epoch), 1, 2, 3, 4, 5, 6, 7),
		"a gone one with one word":   withRest(goneBlock(8, epoch), 0, 0, 0, 0, 0, 0, 1),
	}
}

func TestOfWhatIsNewerThanSureTheHeadAloneIsTold(t *testing.T) {
	for _, clock := range []int64{2, 3, 4, 100, 9998, 9999} {
		for _, epoch := range []int64{clock - 1, clock, clock + 1, 9999} {
			for what, block := range newBlocks(min(epoch, 9999)) {
				words := imageOf(clock, nil, block)
				h, _ := headByRule(block[0])
				checkVersions(t, words, impl.VersionsResult{Versions: []impl.Version{{Line: 2, Block: impl.Block{Head: h}}}})
				checkFree(t, words, impl.IntsResult{List: lines(1, 3, 4)})
				checkNext(t, words, impl.IntResult{Value: 9})
				checkTold(t, what, words, told{dead: lines(2)})
			}
		}
	}
}

func TestAnEpochOfTheClockLessTwoIsSure(t *testing.T) {
	for _, clock := range []int64{3, 4, 100, 9998, 9999} {
		checkTold(t, "sure", imageOf(clock, dirBlock(8, 0, "a", clock-2)), told{nodes: lines(1)})
		checkTold(t, "not sure", imageOf(clock, dirBlock(8, 0, "a", clock-1)), told{dead: lines(1)})
		checkTold(t, "a sure file and its piece", imageOf(clock, pieceBlock(8, 0, clock-2), fileBlock(8, 0, "a", 1, clock-2)), told{nodes: lines(2), datas: lines(1)})
		for what, block := range newBlocks(clock - 2) {
			words := imageOf(clock, block)
			code := readByRule(block).Code
			checkVersions(t, words, versionsByRule(words))
			if got := impl.VersionsIn(words); got.Code != code {
				t.Errorf("%s is sure: VersionsIn = %+v, want the code %d", what, got, code)
			}
			if got := impl.LiveOf(words); got.Code != code {
				t.Errorf("%s is sure: LiveOf = %+v, want the code %d", what, got, code)
			}
		}
	}
}

func TestTheUidOfEachHeadCountsForTheNextOne(t *testing.T) {
	for _, uid := range []int64{1, 2, 500, 997, 998} {
		for _, epoch := range []int64{1, 3, 4, 5, 9999} {
			for _, block := range [][]int64{dirBlock(uid, 0, "a", epoch), fileBlock(uid, 0, "a", 2, epoch), pieceBlock(uid, 2, epoch), goneBlock(uid, epoch)} {
				checkNext(t, imageOf(5, block), impl.IntResult{Value: uid + 1})
				checkNext(t, imageOf(5, dirBlock(1, 0, "b", 2), block, dirBlock(1, 0, "b", 2)), impl.IntResult{Value: uid + 1})
			}
		}
	}
	// A Parent is no Head.
	checkNext(t, imageOf(5, dirBlock(3, 700, "a", 1)), impl.IntResult{Value: 4})
}
