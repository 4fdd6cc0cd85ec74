package tests

import (
	"math"
	"slices"
	"testing"

	"loop.example/g00691/impl"
)

type wrongNode struct {
	what string
	node impl.Node
	code int64
}

func wrongNodes() []wrongNode {
	list := []wrongNode{
		{"nothing", impl.Node{}, impl.ErrRange},
		{"Uid 0", impl.Node{Uid: 0, Parent: 1, Name: "a"}, impl.ErrRange},
		{"Uid 1000", impl.Node{Uid: 1000, Name: "a"}, impl.ErrRange},
		{"Uid -1", impl.Node{Uid: -1, Name: "a"}, impl.ErrRange},
		{"Parent is the Uid", impl.Node{Uid: 1, Parent: 1, Name: "a"}, impl.ErrRange},
		{"Parent is the greatest Uid", impl.Node{Uid: 999, Dir: true, Parent: 999, Name: "a"}, impl.ErrRange},
		{"Parent -1", impl.Node{Uid: 1, Parent: -1, Name: "a"}, impl.ErrRange},
		{"Parent 1000", impl.Node{Uid: 1, Dir: true, Parent: 1000, Name: "a"}, impl.ErrRange},
		{"Size -1", impl.Node{Uid: 1, Name: "a", Size: -1}, impl.ErrRange},
		{"Size 5", impl.Node{Uid: 1, Name: "a", Size: 5}, impl.ErrRange},
		{"a directory of Size 1", impl.Node{Uid: 1, Dir: true, Name: "a", Size: 1}, impl.ErrRange},
		{"a directory of Size 4", impl.Node{Uid: 1, Dir: true, Name: "a", Size: 4}, impl.ErrRange},
		{"a directory of Size -1", impl.Node{Uid: 1, Dir: true, Name: "a", Size: -1}, impl.ErrRange},
		{"no Name", impl.Node{Uid: 1}, impl.ErrText},
		{"a directory without Name", impl.Node{Uid: 1, Dir: true}, impl.ErrText},
		{"no Name, and Uid 0", impl.Node{Uid: 0, Parent: 1, Name: "A"}, impl.ErrRange},
		{"no Name, and Uid 1000", impl.Node{Uid: 1000, Name: ""}, impl.ErrRange},
		{"no Name, and Parent is the Uid", impl.Node{Uid: 1, Parent: 1, Name: "abcdefg"}, impl.ErrRange},
		{"no Name, and Parent 1000", impl.Node{Uid: 1, Parent: 1000, Name: "a/b"}, impl.ErrRange},
		{"no Name, and Size 5", impl.Node{Uid: 1, Name: "\xff", Size: 5}, impl.ErrRange},
		{"no Name, and a directory of Size 1", impl.Node{Uid: 1, Dir: true, Name: "é", Size: 1}, impl.ErrRange},
	}
	for _, far := range []int64{math.MinInt64, math.MinInt64 + 1, math.MaxInt64 - 1, math.MaxInt64} {
		list = append(list,
			wrongNode{"a far Uid", impl.Node{Uid: far, Name: "a"}, impl.ErrRange},
			wrongNode{"a far Parent", impl.Node{Uid: 1, Parent: far, Name: "a"}, impl.ErrRange},
			wrongNode{"a far Uid and Parent", impl.Node{Uid: far, Parent: far, Name: "a"}, impl.ErrRange},
			wrongNode{"a far Size", impl.Node{Uid: 1, Name: "a", Size: far}, impl.ErrRange},
			wrongNode{"a directory of far Size", impl.Node{Uid: 1, Dir: true, Name: "a", Size: far}, impl.ErrRange})
	}
	for _, name := range notNames() {
		list = append(list, wrongNode{"a wrong Name", impl.Node{Uid: 1, Name: name, Size: 2}, impl.ErrText})
	}
	return list
}

func TestWrongNodes(t *testing.T) {
	for _, w := range wrongNodes() {
		if got := impl.NodeFault(w.node); got != w.code {
			t.Errorf("%s: NodeFault of %.100v = %d, want %d", w.what, w.node, got, w.code)
		}
		if got := nodeFaultByRule(w.node); got != w.code {
			t.Errorf("%s: by rule the fault of %.100v is %d, want %d", w.what, w.node, got, w.code)
		}
		// The fault of the node comes first, so a wrong epoch is not seen beside it.
		for _, epoch := range []int64{1, 9999, 0, 10000, math.MinInt64} {
			checkWords(t, "PackNode, "+w.what, w.node, impl.PackNode(w.node, epoch), impl.WordsResult{Code: w.code})
		}
	}
}

func TestNodesAtAllBounds(t *testing.T) {
	uids := []int64{math.MinInt64, -1, 0, 1, 2, 998, 999, 1000, math.MaxInt64}
	for _, uid := range uids {
		for _, parent := range uids {
			for _, size := range []int64{math.MinInt64, -1, 0, 1, 3, 4, 5, math.MaxInt64} {
				for _, name := range []string{"", "a", "zzzzzz", "abcdefg", "A"} {
					for _, dir := range []bool{false, true} {
						n := impl.Node{Uid: uid, Dir: dir, Parent: parent, Name: name, Size: size}
						if got, want := impl.NodeFault(n), nodeFaultByRule(n); got != want {
							t.Fatalf("NodeFault of %+v = %d, want %d", n, got, want)
						}
						for _, epoch := range wrongOrRightEpochs() {
							checkWords(t, "PackNode", n, impl.PackNode(n, epoch), packNodeByRule(n, epoch))
						}
					}
				}
			}
		}
	}
}

func wrongOrRightEpochs() []int64 {
	return []int64{math.MinInt64, -1, 0, 1, 9999, 10000, math.MaxInt64}
}

func wrongEpochs() []int64 {
	return []int64{math.MinInt64, -9999, -1, 0, 10000, 10001, math.MaxInt64}
}

func wrongUids() []int64 {
	return []int64{math.MinInt64, -999, -1, 0, 1000, 1001, math.MaxInt64}
}

func TestWrongEpochs(t *testing.T) {
	wrong := impl.WordsResult{Code: impl.ErrRange}
	for _, epoch := range wrongEpochs() {
		checkWords(t, "PackNode of a directory by a wrong epoch", epoch, impl.PackNode(impl.Node{Uid: 1, Dir: true, Name: "a"}, epoch), wrong)
		checkWords(t, "PackNode of a file by a wrong epoch", epoch, impl.PackNode(impl.Node{Uid: 999, Parent: 1, Name: "a", Size: 4}, epoch), wrong)
		checkWords(t, "PackData by a wrong epoch", epoch, impl.PackData(1, 0, []int64{1, 2, 3, 4}, epoch), wrong)
		checkWords(t, "PackGone by a wrong epoch", epoch, impl.PackGone(1, epoch), wrong)
	}
}

func TestWrongUids(t *testing.T) {
	wrong := impl.WordsResult{Code: impl.ErrRange}
	for _, uid := range wrongUids() {
		checkWords(t, "PackData of a wrong uid", uid, impl.PackData(uid, 0, []int64{1, 2, 3, 4}, 1), wrong)
		checkWords(t, "PackGone of a wrong uid", uid, impl.PackGone(uid, 1), wrong)
		checkWords(t, "PackGone of a wrong uid and epoch", uid, impl.PackGone(uid, uid), wrong)
	}
}

func TestWrongIndexes(t *testing.T) {
	for _, index := range []int64{math.MinInt64, -4, -1, 4, 5, math.MaxInt64} {
		for _, uid := range []int64{1, 999} {
			checkWords(t, "PackData of a wrong index", index, impl.PackData(uid, index, []int64{1, 2, 3, 4}, 1), impl.WordsResult{Code: impl.ErrRange})
		}
	}
}

type wrongNumbers struct {
	list []int64
	code int64
}

func wrongNumberLists() []wrongNumbers {
	lists := []wrongNumbers{
		{nil, impl.ErrMany}, {[]int64{}, impl.ErrMany}, {[]int64{1}, impl.ErrMany}, {[]int64{1, 2, 3}, impl.ErrMany}, {[]int64{1, 2, 3, 4, 5}, impl.ErrMany},
		{[]int64{-1, 2, 3}, impl.ErrMany}, {[]int64{1, 2, 3, 4, 10000}, impl.ErrMany}, {make([]int64, 8), impl.ErrMany}, {make([]int64, 100000), impl.ErrMany},
	}
	for place := range 4 {
		for _, n := range []int64{math.MinInt64, -9999, -1, 10000, 10001, math.MaxInt64} {
			list := []int64{0, 9999, 1, 9998}
			list[place] = n
			lists = append(lists, wrongNumbers{list, impl.ErrRange})
		}
	}
	return lists
}

func TestWrongNumbersOfAPiece(t *testing.T) {
	for _, w := range wrongNumberLists() {
		if got := impl.NumbersFault(w.list); got != w.code {
			t.Errorf("NumbersFault of %.100v = %d, want %d", w.list, got, w.code)
		}
		checkWords(t, "PackData", w.list, impl.PackData(1, 3, w.list, 9999), impl.WordsResult{Code: w.code})
		// Uid, index and epoch are asked ahead of the numbers.
		first := impl.WordsResult{Code: impl.ErrRange}
		checkWords(t, "PackData of a wrong uid and numbers", w.list, impl.PackData(0, 0, w.list, 1), first)
		checkWords(t, "PackData of a wrong index and numbers", w.list, impl.PackData(1, 4, w.list, 1), first)
		checkWords(t, "PackData of a wrong epoch and numbers", w.list, impl.PackData(1, 0, w.list, 10000), first)
	}
}

func TestWrongNumbersOfWords(t *testing.T) {
	for many := range 30 {
		if many == impl.LineWords {
			continue
		}
		checkRead(t, make([]int64, many), impl.BlockResult{Code: impl.ErrMany})
		// How many there are is asked ahead of the head.
		checkRead(t, slices.Repeat([]int64{-1}, many), impl.BlockResult{Code: impl.ErrMany})
	}
	right := packedWords(t, impl.PackGone(1, 2))
	checkRead(t, right[:7], impl.BlockResult{Code: impl.ErrMany})
	checkRead(t, append(slices.Clone(right), 0), impl.BlockResult{Code: impl.ErrMany})
	checkRead(t, make([]int64, 1000000), impl.BlockResult{Code: impl.ErrMany})
}

func TestAFirstWordThatIsNoHead(t *testing.T) {
	words := []int64{
		math.MinInt64, -32017, -16, -1, 1, 2, 3, 4, 16, 17, 16001, 16002, 16003, 16016, 16021, 16023,
		greatestHeadWord + 1, noWord - 1, noWord, math.MaxInt64,
	}
	for _, word := range words {
		checkRead(t, []int64{word, 0, 0, 0, 0, 0, 0, 0}, impl.BlockResult{Code: impl.ErrForm})
		// The head is asked ahead of what stands behind it.
		checkRead(t, []int64{word, 1, 0, 1, 0, 0, 0, 0}, impl.BlockResult{Code: impl.ErrForm})
		checkRead(t, []int64{word, -1, -1, -1, -1, -1, -1, -1}, impl.BlockResult{Code: impl.ErrForm})
	}
}

// checkNoText: each of these numbers in that place of the words is none.
func checkNoText(t *testing.T, words []int64, place int, numbers ...int64) {
	t.Helper()
	for _, n := range numbers {
		other := slices.Clone(words)
		other[place] = n
		checkRead(t, other, impl.BlockResult{Code: impl.ErrText})
	}
}

func TestWrongWordsOfANode(t *testing.T) {
	dir := packedWords(t, impl.PackNode(impl.Node{Uid: 7, Dir: true, Parent: 3, Name: "ab"}, 2))
	file := packedWords(t, impl.PackNode(impl.Node{Uid: 7, Parent: 3, Name: "ab", Size: 4}, 2))
	far := []int64{math.MinInt64, -1, noWord, math.MaxInt64}
	for _, words := range [][]int64{dir, file} {
		checkNoText(t, words, 1, append([]int64{0, 3, 4}, far...)...)
		checkNoText(t, words, 2, append([]int64{7, 1000, 1001}, far...)...)
		checkNoText(t, words, 3, append([]int64{0, 27, 54, 729, greatestNameWord + 1}, far...)...)
		checkNoText(t, words, 4, append([]int64{5, 6}, far...)...)
		for place := 5; place < 8; place++ {
			checkNoText(t, words, place, append([]int64{1, 2, 9999}, far...)...)
		}
	}
	checkNoText(t, dir, 4, 1, 2, 3, 4)
	checkNoText(t, file, 1, 1)
}

func TestWrongWordsOfAPiece(t *testing.T) {
	for index := range int64(4) {
		words := packedWords(t, impl.PackData(7, index, []int64{1, 0, 9999, 4}, 2))
		for place := 1; place < 5; place++ {
			checkNoText(t, words, place, math.MinInt64, -1, 10000, 10001, noWord, math.MaxInt64)
		}
		for place := 5; place < 8; place++ {
			checkNoText(t, words, place, math.MinInt64, -1, 1, 2, 9999, noWord, math.MaxInt64)
		}
	}
}

func TestWrongWordsOfWhatIsGone(t *testing.T) {
	words := packedWords(t, impl.PackGone(7, 2))
	for place := 1; place < 8; place++ {
		checkNoText(t, words, place, math.MinInt64, -1, 1, 2, 9999, noWord, math.MaxInt64)
	}
}
