package tests

import (
	"math"
	"math/rand"
	"reflect"
	"slices"
	"strings"
	"testing"

	"loop.example/g00691/impl"
)

type askedNode struct {
	node  impl.Node
	epoch int64
}

type askedPiece struct {
	uid   int64
	index int64
	list  []int64
	epoch int64
}

func askedNodes() []askedNode {
	var list []askedNode
	eachNode(func(n impl.Node) {
		list = append(list, askedNode{n, 1 + n.Size})
	})
	for _, w := range wrongNodes() {
		list = append(list, askedNode{w.node, 1})
	}
	for _, n := range blockNumbers() {
		long := impl.Node{Uid: n, Parent: n, Name: strings.Repeat("a", 1000000), Size: n}
		list = append(list, askedNode{long, n}, askedNode{impl.Node{Uid: n, Dir: true, Name: "a"}, n}, askedNode{impl.Node{Uid: 1, Name: "a"}, n})
	}
	return list
}

func askedPieces() []askedPiece {
	list := []askedPiece{{1, 0, []int64{1, 2, 3, 4}, 1}, {999, 3, []int64{9999, 0, 0, 9999}, 9999}}
	for _, w := range wrongNumberLists() {
		list = append(list, askedPiece{1, 0, w.list, 1})
	}
	for _, n := range blockNumbers() {
		list = append(list, askedPiece{n, n, []int64{n, n, n, n}, n}, askedPiece{1, n, []int64{1, 2, 3, 4}, 1}, askedPiece{n, 1, []int64{1, 2, 3, 4}, n})
	}
	return list
}

func askedWords() [][]int64 {
	r := rand.New(rand.NewSource(17))
	list := [][]int64{nil, {}, {0}, make([]int64, 7), make([]int64, 8), make([]int64, 9), make([]int64, 100000)}
	for range 300 {
		words := anyBlockWords(r)
		list = append(list, words)
		for _, n := range blockNumbers() {
			other := slices.Clone(words)
			other[r.Intn(8)] = n
			list = append(list, other)
		}
	}
	for _, n := range blockNumbers() {
		list = append(list, []int64{0, n, n, n, n, n, n, n}, []int64{n, n, n, n, n, n, n, n}, []int64{n, 1, 0, 1, 0, 0, 0, 0})
	}
	return list
}

// answersOfBlocks asks each function of the chapter of blocks at each of these arguments.
func answersOfBlocks() []any {
	var all []any
	for _, a := range askedNodes() {
		all = append(all, impl.NodeFault(a.node), impl.PackNode(a.node, a.epoch))
	}
	for _, a := range askedPieces() {
		all = append(all, impl.NumbersFault(a.list), impl.PackData(a.uid, a.index, a.list, a.epoch), impl.PackGone(a.uid, a.epoch))
	}
	for _, words := range askedWords() {
		all = append(all, impl.ReadBlock(words))
	}
	return append(all, impl.SameBlocks(someBlocks(), someBlocks()), impl.SameBlocks(nil, someBlocks()))
}

func TestAnswersOfBlocksHangOnTheArgumentsAlone(t *testing.T) {
	if !reflect.DeepEqual(answersOfBlocks(), answersOfBlocks()) {
		t.Error("two calls with the same arguments answer differently")
	}
}

func TestBesideACodeOfABlockAllElseIsZero(t *testing.T) {
	for _, answer := range answersOfBlocks() {
		switch got := answer.(type) {
		case impl.WordsResult:
			if got.Code != impl.OK && len(got.Words) != 0 {
				t.Errorf("beside a code there is %v", got)
			}
		case impl.BlockResult:
			if got.Code != impl.OK && !sameBlockByRule(got.Block, impl.Block{}) {
				t.Errorf("beside a code there is %+v", got)
			}
		}
	}
}

// checkUnchanged: neither the list nor what is free behind it turns when it is asked.
func checkUnchanged(t *testing.T, list []int64, ask func(given []int64)) {
	t.Helper()
	whole := roomy(list, -5)
	before := slices.Clone(whole)
	ask(whole[:len(list)])
	if !slices.Equal(whole, before) {
		t.Fatalf("an argument was changed: %.200v was %.200v", whole, before)
	}
}

func TestNoArgumentOfABlockFunctionIsChanged(t *testing.T) {
	for _, a := range askedPieces() {
		checkUnchanged(t, a.list, func(given []int64) {
			impl.NumbersFault(given)
			impl.PackData(a.uid, a.index, given, a.epoch)
		})
	}
	for _, words := range askedWords() {
		checkUnchanged(t, words, func(given []int64) {
			impl.ReadBlock(given)
		})
	}
	whole := roomy(someBlocks(), impl.Block{Numbers: []int64{9}})
	before := copyOfBlocks(whole)
	given := whole[:len(someBlocks())]
	impl.SameBlocks(given, given)
	impl.SameBlocks(given, someBlocks())
	if !reflect.DeepEqual(whole, before) {
		t.Errorf("SameBlocks turned %+v to %+v", before, whole)
	}
}

// checkApart: the lists of two answers share memory neither with the argument nor with each other.
func checkApart(t *testing.T, what string, first []int64, second []int64, given []int64) {
	t.Helper()
	if overlap(span(first), span(given)) || overlap(span(second), span(given)) {
		t.Fatalf("%s of %v shares memory with the argument", what, given)
	}
	if overlap(span(first), span(second)) {
		t.Fatalf("two answers of %s of %v share memory", what, given)
	}
}

func TestEachBlockThatIsAnsweredIsNewMemory(t *testing.T) {
	for _, a := range askedPieces() {
		first, second := impl.PackData(a.uid, a.index, a.list, a.epoch), impl.PackData(a.uid, a.index, a.list, a.epoch)
		checkApart(t, "PackData", first.Words, second.Words, a.list)
		checkApart(t, "PackGone", impl.PackGone(a.uid, a.epoch).Words, impl.PackGone(a.uid, a.epoch).Words, a.list)
	}
	for _, a := range askedNodes() {
		checkApart(t, "PackNode", impl.PackNode(a.node, a.epoch).Words, impl.PackNode(a.node, a.epoch).Words, nil)
	}
	for _, words := range askedWords() {
		first, second := impl.ReadBlock(words), impl.ReadBlock(words)
		checkApart(t, "ReadBlock", first.Block.Numbers, second.Block.Numbers, words)
	}
}

func TestABlockThatIsWrittenOverIsNotSeenInTheNextOne(t *testing.T) {
	for _, words := range askedWords() {
		first := impl.ReadBlock(words)
		for i := range first.Block.Numbers {
			first.Block.Numbers[i] = math.MinInt64
		}
		checkRead(t, words, readByRule(words))
	}
	for _, a := range askedPieces() {
		first := impl.PackData(a.uid, a.index, a.list, a.epoch)
		for i := range first.Words {
			first.Words[i] = math.MinInt64
		}
		checkWords(t, "PackData", a.list, impl.PackData(a.uid, a.index, a.list, a.epoch), packDataByRule(a.uid, a.index, a.list, a.epoch))
	}
}

func TestAnyArgumentOfABlockFunctionIsAnsweredAsTheDocumentTells(t *testing.T) {
	for _, a := range askedNodes() {
		checkWords(t, "PackNode", a.node, impl.PackNode(a.node, a.epoch), packNodeByRule(a.node, a.epoch))
	}
	for _, a := range askedPieces() {
		checkWords(t, "PackData", a, impl.PackData(a.uid, a.index, a.list, a.epoch), packDataByRule(a.uid, a.index, a.list, a.epoch))
		checkWords(t, "PackGone", a, impl.PackGone(a.uid, a.epoch), packGoneByRule(a.uid, a.epoch))
	}
	for _, words := range askedWords() {
		checkReadAndMadeAgain(t, words)
	}
}
