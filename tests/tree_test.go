package tests

import (
	"math/rand"
	"slices"
	"testing"

	"loop.example/g00691/impl"
)

func checkTreeOf(t *testing.T, what string, words []int64, want ...impl.Item) {
	t.Helper()
	checkItemsResult(t, what, impl.TreeOf(words), impl.ItemsResult{Items: want})
}

func checkNoTree(t *testing.T, what string, words []int64, code int64) {
	t.Helper()
	if got := impl.LiveOf(words).Code; got != code {
		t.Errorf("%s: LiveOf has the code %d", what, got)
	}
	checkItemsResult(t, what, impl.TreeOf(words), impl.ItemsResult{Code: code})
}

func TestEachCodeOfWhatLivesIsTheTrees(t *testing.T) {
	checkNoTree(t, "nil", nil, impl.ErrMany)
	checkNoTree(t, "one line", emptyImage(1, 5), impl.ErrMany)
	checkNoTree(t, "42 lines", emptyImage(42, 5), impl.ErrMany)
	checkNoTree(t, "no whole lines", emptyImage(3, 5)[:23], impl.ErrMany)
	checkNoTree(t, "a number that is no word", imageOf(5, []int64{0, -1}), impl.ErrRange)
	checkNoTree(t, "no Magic", make([]int64, 16), impl.ErrState)
	checkNoTree(t, "a clock below the first one", emptyImage(2, 1), impl.ErrRange)
	checkNoTree(t, "a clock above the last epoch", emptyImage(2, 10000), impl.ErrRange)
	checkNoTree(t, "a line without a head", imageOf(5, []int64{5}), impl.ErrForm)
	checkNoTree(t, "a sure block that cannot be read", imageOf(5, withRest(dirBlock(1, 0, "a", 3), 3)), impl.ErrText)
	checkNoTree(t, "two of one epoch", imageOf(5, dirBlock(1, 0, "a", 3), goneBlock(1, 3)), impl.ErrTaken)
	checkNoTree(t, "no parent", imageOf(5, dirBlock(1, 2, "a", 3)), impl.ErrState)
	checkNoTree(t, "too deep", imageOf(5, chain(5)...), impl.ErrState)
	checkNoTree(t, "in a circle", imageOf(5, dirBlock(1, 2, "a", 1), dirBlock(2, 1, "a", 1)), impl.ErrState)
	checkNoTree(t, "two of one name", imageOf(5, dirBlock(1, 0, "a", 3), fileBlock(2, 0, "a", 0, 2)), impl.ErrState)
	checkNoTree(t, "a piece is missing", imageOf(5, fileBlock(1, 0, "a", 2, 3), pieceBlock(1, 0, 3)), impl.ErrState)
}

func TestTheTreeOfNothing(t *testing.T) {
	for lines := 2; lines <= 41; lines++ {
		checkTreeOf(t, "all lines are free", emptyImage(lines, 2))
	}
	checkTreeOf(t, "all is gone", imageOf(9, goneBlock(1, 3), dirBlock(1, 0, "a", 2)))
	checkTreeOf(t, "nothing is sure", imageOf(2, dirBlock(1, 0, "a", 1), fileBlock(2, 1, "b", 1, 2), pieceBlock(2, 0, 2)))
	checkTreeOf(t, "loose pieces alone", imageOf(9, pieceBlock(1, 0, 1), pieceBlock(1, 1, 1)))
}

func TestTheTreeOfDirectoriesUpToTheGreatestDepth(t *testing.T) {
	checkTreeOf(t, "a chain", imageOf(5, chain(4)...), dirItem("/a"), dirItem("/a/a"), dirItem("/a/a/a"), dirItem("/a/a/a/a"))
	// The Uids fall from the root on, and beside each other the names fall as the Uids rise.
	words := imageOf(9,
		fileBlock(3, 20, "x", 0, 1), dirBlock(20, 500, "c", 2), dirBlock(500, 999, "b", 3), dirBlock(999, 0, "a", 4),
		dirBlock(1, 0, "z", 7), dirBlock(2, 0, "y", 7), fileBlock(4, 999, "ba", 0, 1), fileBlock(5, 0, "ab", 0, 1), dirBlock(6, 1, "a", 1))
	checkTreeOf(t, "Uids that fall", words,
		dirItem("/a"), dirItem("/a/b"), dirItem("/a/b/c"), fileItem("/a/b/c/x", 0, 0), fileItem("/a/ba", 0, 0),
		fileItem("/ab", 0, 0), dirItem("/y"), dirItem("/z"), dirItem("/z/a"))
	checkTreeOf(t, "the longest names", imageOf(9, dirBlock(9, 0, "zzzzzz", 1), dirBlock(8, 9, "zzzzzz", 1), dirBlock(7, 8, "zzzzzz", 1), fileBlock(6, 7, "zzzzzz", 0, 1)),
		dirItem("/zzzzzz"), dirItem("/zzzzzz/zzzzzz"), dirItem("/zzzzzz/zzzzzz/zzzzzz"), fileItem("/zzzzzz/zzzzzz/zzzzzz/zzzzzz", 0, 0))
}

func TestTheTreeOfAFileOfSeveralPieces(t *testing.T) {
	whole := impl.Item{Path: "/d/f"}
	for index := range int64(4) {
		whole.Data = append(whole.Data, 7, index, 1+index, 9999)
	}
	blocks := [][]int64{pieceBlock(7, 0, 1), pieceBlock(7, 1, 2), pieceBlock(7, 2, 3), pieceBlock(7, 3, 4), dirBlock(9, 0, "d", 4), fileBlock(7, 9, "f", 4, 2)}
	r := rand.New(rand.NewSource(35))
	for range 100 {
		checkTreeOf(t, "pieces in any lines", imageOf(6, blocks...), dirItem("/d"), whole)
		r.Shuffle(len(blocks), func(i int, j int) { blocks[i], blocks[j] = blocks[j], blocks[i] })
	}
	for size := range int64(5) {
		other := imageOf(6, append([][]int64{fileBlock(7, 9, "f", size, 3)}, blocks...)...)
		checkTreeOf(t, "cut since", other, dirItem("/d"), impl.Item{Path: "/d/f", Data: whole.Data[:4*size]})
	}
}

func TestTheTreeHasTheNewestThatIsSure(t *testing.T) {
	blocks := [][]int64{
		fileBlock(1, 0, "old", 1, 1), fileBlock(1, 0, "new", 1, 3), fileBlock(1, 0, "newer", 1, 5),
		pieceBlock(1, 0, 2), pieceBlock(1, 0, 4), pieceBlock(1, 0, 6), goneBlock(1, 8),
	}
	file := func(path string, epoch int64) impl.Item {
		return impl.Item{Path: path, Data: []int64{1, 0, epoch, 9999}}
	}
	checkNoTree(t, "the piece is not sure yet", imageOf(3, blocks...), impl.ErrState)
	checkTreeOf(t, "of the clock 4", imageOf(4, blocks...), file("/old", 2))
	checkTreeOf(t, "of the clock 5", imageOf(5, blocks...), file("/new", 2))
	checkTreeOf(t, "of the clock 6", imageOf(6, blocks...), file("/new", 4))
	checkTreeOf(t, "of the clock 7", imageOf(7, blocks...), file("/newer", 4))
	checkTreeOf(t, "of the clock 9", imageOf(9, blocks...), file("/newer", 6))
	checkTreeOf(t, "of the clock 10", imageOf(10, blocks...))
}

func TestTheTreeOfAsManyLinesAsThereMayBe(t *testing.T) {
	words := emptyImage(41, 9)
	var want []impl.Item
	for line := int64(1); line < 41; line++ {
		name := uidName(1000 - line)
		copy(words[8*line:], fileBlock(line, 0, name, 0, 1+line%7))
		want = append(want, impl.Item{Path: "/" + name})
	}
	slices.Reverse(want)
	checkTreeOf(t, "40 files", words, want...)
}

func TestWhatIsKeptTellsARightTree(t *testing.T) {
	r := rand.New(rand.NewSource(36))
	trees := 0
	for range 5000 {
		words := renamed(anyImage(r))
		for range r.Intn(3) {
			copy(words[8*(1+r.Intn(len(words)/8-1)):], anySmallBlock(r, words[1]))
		}
		live, tree := impl.LiveOf(words), impl.TreeOf(words)
		if tree.Code != live.Code {
			t.Fatalf("TreeOf has the code %d, LiveOf %d: %v", tree.Code, live.Code, words)
		}
		if live.Code != impl.OK {
			continue
		}
		trees++
		if impl.ItemsFault(tree.Items) != 0 || itemsFaultByRule(tree.Items) != 0 || len(tree.Items) != len(live.Nodes) {
			t.Fatalf("the tree is not right: %v", tree.Items)
		}
	}
	if trees < 1000 {
		t.Errorf("only %d trees were told", trees)
	}
}
