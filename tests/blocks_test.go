package tests

import (
	"math"
	"slices"
	"testing"

	"loop.example/g00691/impl"
)

// packedWords: the words of a block, where no code is awaited.
func packedWords(t *testing.T, answer impl.WordsResult) []int64 {
	t.Helper()
	if answer.Code != impl.OK || len(answer.Words) != impl.LineWords {
		t.Fatalf("what was packed is %v", answer)
	}
	return answer.Words
}

// checkToldBack: the block is read from these words, every field, and makes just them again.
func checkToldBack(t *testing.T, words []int64, want impl.Block) {
	t.Helper()
	checkRead(t, words, impl.BlockResult{Block: want})
	got := impl.ReadBlock(words)
	checkWords(t, "what was read", got.Block, packedBlock(got.Block), impl.WordsResult{Words: words})
}

func checkNode(t *testing.T, n impl.Node, epoch int64) {
	t.Helper()
	if got := impl.NodeFault(n); got != impl.OK {
		t.Fatalf("NodeFault of %+v = %d", n, got)
	}
	words := packedWords(t, impl.PackNode(n, epoch))
	checkWords(t, "PackNode", n, impl.WordsResult{Words: words}, packNodeByRule(n, epoch))
	checkToldBack(t, words, impl.Block{Head: impl.Head{Kind: impl.KindNode, Uid: n.Uid, Epoch: epoch}, Node: n})
}

// eachNode hands on directories and files of all sizes with each edge of the other fields.
func eachNode(told func(n impl.Node)) {
	for _, uid := range []int64{1, 2, 500, 998, impl.MaxUid} {
		for _, parent := range []int64{0, 1, 2, 500, 998, impl.MaxUid} {
			if parent == uid {
				continue
			}
			for _, name := range []string{"a", "z", "ab", "zz", "abcde", "aaaaaa", "zzzzzz"} {
				told(impl.Node{Uid: uid, Dir: true, Parent: parent, Name: name})
				for size := int64(0); size <= impl.MaxSize; size++ {
					told(impl.Node{Uid: uid, Parent: parent, Name: name, Size: size})
				}
			}
		}
	}
}

func TestNodesAreReadBack(t *testing.T) {
	eachNode(func(n impl.Node) {
		for _, epoch := range []int64{1, 2, 5000, 9998, impl.MaxEpoch} {
			checkNode(t, n, epoch)
		}
	})
}

func TestNodesOfEachUidAndEachParentAreReadBack(t *testing.T) {
	for uid := int64(1); uid <= impl.MaxUid; uid++ {
		checkNode(t, impl.Node{Uid: uid, Dir: true, Name: "dir"}, 1)
		if uid != 7 {
			checkNode(t, impl.Node{Uid: 7, Parent: uid, Name: "file", Size: 3}, impl.MaxEpoch)
		}
	}
}

func TestPiecesAreReadBack(t *testing.T) {
	lists := [][]int64{
		{0, 0, 0, 0}, {9999, 9999, 9999, 9999}, {1, 2, 3, 4}, {4, 3, 2, 1}, {9999, 0, 0, 0}, {0, 9999, 0, 0}, {0, 0, 9999, 0}, {0, 0, 0, 9999}, {5, 5, 5, 5},
	}
	for _, list := range lists {
		if got := impl.NumbersFault(list); got != impl.OK {
			t.Fatalf("NumbersFault of %v = %d", list, got)
		}
		for _, uid := range []int64{1, 2, 500, impl.MaxUid} {
			for index := int64(0); index <= impl.MaxIndex; index++ {
				for _, epoch := range []int64{1, 2, 5000, impl.MaxEpoch} {
					words := packedWords(t, impl.PackData(uid, index, list, epoch))
					checkWords(t, "PackData", list, impl.WordsResult{Words: words}, packDataByRule(uid, index, list, epoch))
					checkToldBack(t, words, impl.Block{Head: impl.Head{Kind: impl.KindData, Uid: uid, Index: index, Epoch: epoch}, Numbers: list})
				}
			}
		}
	}
}

func TestWhatIsGoneIsReadBack(t *testing.T) {
	for uid := int64(1); uid <= impl.MaxUid; uid++ {
		for _, epoch := range []int64{1, 2, 5000, 9998, impl.MaxEpoch} {
			words := packedWords(t, impl.PackGone(uid, epoch))
			checkWords(t, "PackGone", uid, impl.WordsResult{Words: words}, packGoneByRule(uid, epoch))
			checkToldBack(t, words, impl.Block{Head: impl.Head{Kind: impl.KindGone, Uid: uid, Epoch: epoch}})
		}
	}
}

func TestWordsOfBlocks(t *testing.T) {
	cases := []struct {
		what string
		got  impl.WordsResult
		want []int64
	}{
		{"a directory", impl.PackNode(impl.Node{Uid: 1, Dir: true, Name: "a"}, 2), []int64{32017, 1, 0, 1, 0, 0, 0, 0}},
		{"a file", impl.PackNode(impl.Node{Uid: 2, Parent: 1, Name: "ab", Size: 3}, 2), []int64{32033, 2, 1, 29, 3, 0, 0, 0}},
		{"the greatest file", impl.PackNode(impl.Node{Uid: 999, Parent: 998, Name: "zzzzzz", Size: 4}, 9999), []int64{159999985, 2, 998, 387420488, 4, 0, 0, 0}},
		{"a piece", impl.PackData(1, 0, []int64{1, 2, 3, 4}, 3), []int64{48018, 1, 2, 3, 4, 0, 0, 0}},
		{"the greatest piece", impl.PackData(999, 3, []int64{9999, 9998, 9997, 9996}, 9999), []int64{159999998, 9999, 9998, 9997, 9996, 0, 0, 0}},
		{"what is gone", impl.PackGone(1, 2), []int64{32019, 0, 0, 0, 0, 0, 0, 0}},
	}
	for _, c := range cases {
		checkWords(t, "the pack", c.what, c.got, impl.WordsResult{Words: c.want})
	}
}

func TestTheWordsOfAFreeBlockAreWhateverTheyLike(t *testing.T) {
	for _, n := range blockNumbers() {
		checkRead(t, []int64{0, n, n, n, n, n, n, n}, impl.BlockResult{})
		for place := 1; place < impl.LineWords; place++ {
			words := make([]int64, impl.LineWords)
			words[place] = n
			checkRead(t, words, impl.BlockResult{})
		}
	}
	// What stands behind the head was a right node, or a right piece, before the head was cleared.
	checkRead(t, []int64{0, 1, 0, 1, 0, 0, 0, 0}, impl.BlockResult{})
	checkRead(t, []int64{0, 2, 5, 29, 4, 0, 0, 0}, impl.BlockResult{})
	checkRead(t, []int64{0, 1, 2, 3, 4, 0, 0, 0}, impl.BlockResult{})
}

func someBlocks() []impl.Block {
	return []impl.Block{
		{},
		{Head: impl.Head{Kind: 1, Uid: 2, Epoch: 4}, Node: impl.Node{Uid: 2, Parent: 3, Name: "ab", Size: 4}},
		{Head: impl.Head{Kind: 2, Uid: 2, Index: 3, Epoch: 4}, Numbers: []int64{1, 2, 3, 4}},
		{Head: impl.Head{Kind: 3, Uid: 2, Epoch: 4}},
		{Head: impl.Head{Kind: math.MinInt64, Uid: math.MaxInt64, Index: -1, Epoch: -1}, Node: impl.Node{Uid: -5, Dir: true, Parent: -6, Name: "\xff no name", Size: 99}, Numbers: []int64{math.MaxInt64, math.MinInt64}},
	}
}

func copyOfBlocks(list []impl.Block) []impl.Block {
	copied := slices.Clone(list)
	for i := range copied {
		copied[i].Numbers = slices.Clone(copied[i].Numbers)
	}
	return copied
}

// blockTurns: each turns one thing of one block, and nothing else.
func blockTurns() map[string]func(b *impl.Block) {
	return map[string]func(b *impl.Block){
		"Kind":            func(b *impl.Block) { b.Head.Kind++ },
		"Uid of the head": func(b *impl.Block) { b.Head.Uid-- },
		"Index":           func(b *impl.Block) { b.Head.Index++ },
		"Epoch":           func(b *impl.Block) { b.Head.Epoch++ },
		"Uid of the node": func(b *impl.Block) { b.Node.Uid++ },
		"Dir":             func(b *impl.Block) { b.Node.Dir = !b.Node.Dir },
		"Parent":          func(b *impl.Block) { b.Node.Parent++ },
		"Name":            func(b *impl.Block) { b.Node.Name += "a" },
		"Size":            func(b *impl.Block) { b.Node.Size++ },
		"one more number": func(b *impl.Block) { b.Numbers = append(b.Numbers, 0) },
		"other numbers":   func(b *impl.Block) { b.Numbers = []int64{1, 2, 4, 3} },
	}
}

func checkSame(t *testing.T, what string, a []impl.Block, b []impl.Block, want bool) {
	t.Helper()
	if impl.SameBlocks(a, b) != want || impl.SameBlocks(b, a) != want {
		t.Errorf("%s: SameBlocks of %+v and %+v is not %v both ways", what, a, b, want)
	}
}

func TestSameBlocksSeesEachField(t *testing.T) {
	checkSame(t, "copies", someBlocks(), someBlocks(), true)
	for place := range someBlocks() {
		for what, turn := range blockTurns() {
			other := someBlocks()
			turn(&other[place])
			checkSame(t, what, someBlocks(), other, false)
			checkSame(t, what, other, copyOfBlocks(other), true)
		}
	}
	for place := range 4 {
		other := someBlocks()
		other[2].Numbers[place] = 7
		checkSame(t, "one number", someBlocks(), other, false)
	}
	fewer := someBlocks()
	fewer[2].Numbers = fewer[2].Numbers[:3]
	checkSame(t, "fewer numbers", someBlocks(), fewer, false)
}

func TestSameBlocksSeesOrderAndHowMany(t *testing.T) {
	all := someBlocks()
	for i := range all {
		for j := range i {
			other := someBlocks()
			other[i], other[j] = other[j], other[i]
			checkSame(t, "another order", all, other, false)
		}
		checkSame(t, "fewer", all, all[:i], false)
		checkSame(t, "one left out", all, slices.Delete(someBlocks(), i, i+1), false)
	}
	checkSame(t, "one more, zero", all, append(someBlocks(), impl.Block{}), false)
	checkSame(t, "one and none", []impl.Block{{}}, nil, false)
	checkSame(t, "one and two", []impl.Block{{}}, []impl.Block{{}, {}}, false)
}

func TestAnEmptyListOfBlocksOrNumbersIsNil(t *testing.T) {
	checkSame(t, "no blocks", nil, nil, true)
	checkSame(t, "no blocks", nil, []impl.Block{}, true)
	checkSame(t, "no numbers", []impl.Block{{}}, []impl.Block{{Numbers: []int64{}}}, true)
	for _, list := range [][]int64{nil, {}} {
		if impl.NumbersFault(list) != impl.ErrMany {
			t.Errorf("NumbersFault of %#v = %d", list, impl.NumbersFault(list))
		}
		checkWords(t, "PackData", list, impl.PackData(1, 0, list, 1), impl.WordsResult{Code: impl.ErrMany})
		checkRead(t, list, impl.BlockResult{Code: impl.ErrMany})
	}
}
