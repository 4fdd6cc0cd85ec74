package tests

import (
	"math"
	"math/rand"
	"slices"
	"strings"
	"testing"

	"loop.example/g00691/impl"
)

// Blocks once more, word by word as the document tells them, to hold the program's answers against.

func nodeFaultByRule(n impl.Node) int64 {
	most := int64(4)
	if n.Dir {
		most = 0
	}
	if n.Uid < 1 || n.Uid > 999 || n.Parent < 0 || n.Parent > 999 || n.Parent == n.Uid || n.Size < 0 || n.Size > most {
		return impl.ErrRange
	}
	if len(n.Name) < 1 || len(n.Name) > 6 || strings.Trim(n.Name, "abcdefghijklmnopqrstuvwxyz") != "" {
		return impl.ErrText
	}
	return 0
}

func numbersFaultByRule(list []int64) int64 {
	if len(list) != 4 {
		return impl.ErrMany
	}
	if slices.Min(list) < 0 || slices.Max(list) > 9999 {
		return impl.ErrRange
	}
	return 0
}

func packNodeByRule(n impl.Node, epoch int64) impl.WordsResult {
	if code := nodeFaultByRule(n); code != 0 {
		return impl.WordsResult{Code: code}
	}
	if epoch < 1 || epoch > 9999 {
		return impl.WordsResult{Code: impl.ErrRange}
	}
	kind := int64(2)
	if n.Dir {
		kind = 1
	}
	name := int64(0)
	for i := range len(n.Name) {
		name = 27*name + int64(n.Name[i]-'a'+1)
	}
	head := wordByRule(impl.Head{Kind: 1, Uid: n.Uid, Epoch: epoch})
	return impl.WordsResult{Words: []int64{head, kind, n.Parent, name, n.Size, 0, 0, 0}}
}

func packDataByRule(uid int64, index int64, list []int64, epoch int64) impl.WordsResult {
	if uid < 1 || uid > 999 || index < 0 || index > 3 || epoch < 1 || epoch > 9999 {
		return impl.WordsResult{Code: impl.ErrRange}
	}
	if code := numbersFaultByRule(list); code != 0 {
		return impl.WordsResult{Code: code}
	}
	head := wordByRule(impl.Head{Kind: 2, Uid: uid, Index: index, Epoch: epoch})
	return impl.WordsResult{Words: []int64{head, list[0], list[1], list[2], list[3], 0, 0, 0}}
}

func packGoneByRule(uid int64, epoch int64) impl.WordsResult {
	if uid < 1 || uid > 999 || epoch < 1 || epoch > 9999 {
		return impl.WordsResult{Code: impl.ErrRange}
	}
	head := wordByRule(impl.Head{Kind: 3, Uid: uid, Epoch: epoch})
	return impl.WordsResult{Words: []int64{head, 0, 0, 0, 0, 0, 0, 0}}
}

func headByRule(word int64) (impl.Head, bool) {
	h := impl.Head{Kind: word % 4, Index: word / 4 % 4, Uid: word / 16 % 1000, Epoch: word / 16000}
	return h, word >= 0 && isHeadByRule(h)
}

func nodeByRule(uid int64, words []int64) (impl.Node, bool) {
	name, isName := nameByDigits(words[3])
	n := impl.Node{Uid: uid, Dir: words[1] == 1, Parent: words[2], Name: name, Size: words[4]}
	isKind := words[1] == 1 || words[1] == 2
	return n, isName && isKind && nodeFaultByRule(n) == 0 && slices.Equal(words[5:], []int64{0, 0, 0})
}

func readByRule(words []int64) impl.BlockResult {
	if len(words) != 8 {
		return impl.BlockResult{Code: impl.ErrMany}
	}
	h, is := headByRule(words[0])
	if !is {
		return impl.BlockResult{Code: impl.ErrForm}
	}
	block := impl.Block{Head: h}
	switch h.Kind {
	case 1:
		block.Node, is = nodeByRule(h.Uid, words)
	case 2:
		block.Numbers = words[1:5]
		is = numbersFaultByRule(words[1:5]) == 0 && slices.Equal(words[5:], []int64{0, 0, 0})
	case 3:
		is = slices.Equal(words[1:], make([]int64, 7))
	}
	if !is {
		return impl.BlockResult{Code: impl.ErrText}
	}
	return impl.BlockResult{Block: block}
}

func sameBlockByRule(a impl.Block, b impl.Block) bool {
	return a.Head == b.Head && a.Node == b.Node && slices.Equal(a.Numbers, b.Numbers)
}

func checkWords(t *testing.T, what string, given any, got impl.WordsResult, want impl.WordsResult) {
	t.Helper()
	if got.Code != want.Code || !slices.Equal(got.Words, want.Words) {
		t.Fatalf("%s of %.200v = %v, want %v", what, given, got, want)
	}
}

func checkRead(t *testing.T, words []int64, want impl.BlockResult) {
	t.Helper()
	got := impl.ReadBlock(words)
	if got.Code != want.Code || !sameBlockByRule(got.Block, want.Block) {
		t.Fatalf("ReadBlock of %.200v = %+v, want %+v", words, got, want)
	}
}

// packedBlock: the words of what was read, by the function of its kind.
func packedBlock(b impl.Block) impl.WordsResult {
	switch b.Head.Kind {
	case impl.KindNode:
		return impl.PackNode(b.Node, b.Head.Epoch)
	case impl.KindData:
		return impl.PackData(b.Head.Uid, b.Head.Index, b.Numbers, b.Head.Epoch)
	}
	return impl.PackGone(b.Head.Uid, b.Head.Epoch)
}

// checkReadAndMadeAgain holds ReadBlock against the rule, and what it reads against its words.
func checkReadAndMadeAgain(t *testing.T, words []int64) {
	t.Helper()
	checkRead(t, words, readByRule(words))
	got := impl.ReadBlock(words)
	if got.Code == impl.OK && got.Block.Head.Kind != impl.KindFree {
		checkWords(t, "what was read", got.Block, packedBlock(got.Block), impl.WordsResult{Words: words})
	}
}

func anyName(r *rand.Rand) string {
	letters := make([]byte, 1+r.Intn(6))
	for i := range letters {
		letters[i] = byte('a' + r.Intn(26))
	}
	return string(letters)
}

// anyNode has no fault.
func anyNode(r *rand.Rand) impl.Node {
	n := impl.Node{Uid: 1 + r.Int63n(999), Dir: r.Intn(2) == 0, Parent: r.Int63n(1000), Name: anyName(r)}
	if n.Parent == n.Uid {
		n.Parent = 0
	}
	if !n.Dir {
		n.Size = r.Int63n(5)
	}
	return n
}

func anyPiece(r *rand.Rand) []int64 {
	return []int64{r.Int63n(10000), r.Int63n(10000), r.Int63n(10000), r.Int63n(10000)}
}

func anyEpoch(r *rand.Rand) int64 {
	return 1 + r.Int63n(9999)
}

// anyBlockWords: the words of a block that is not free.
func anyBlockWords(r *rand.Rand) []int64 {
	switch r.Intn(3) {
	case 0:
		return packNodeByRule(anyNode(r), anyEpoch(r)).Words
	case 1:
		return packDataByRule(1+r.Int63n(999), r.Int63n(4), anyPiece(r), anyEpoch(r)).Words
	}
	return packGoneByRule(1+r.Int63n(999), anyEpoch(r)).Words
}

// blockNumbers: each bound of a block's words, with what is next to it.
func blockNumbers() []int64 {
	return []int64{
		math.MinInt64, math.MinInt64 + 1, -16017, -1, 0, 1, 2, 3, 4, 5, 26, 27, 28, 29, 998, 999, 1000, 9998, 9999, 10000,
		16017, 16018, 16019, 16021, 32017, greatestNameWord, greatestNameWord + 1, greatestHeadWord, greatestHeadWord + 1,
		noWord - 1, noWord, math.MaxInt64 - 1, math.MaxInt64,
	}
}

func TestAnyBlocksAreReadAsTheDocumentTells(t *testing.T) {
	r := rand.New(rand.NewSource(12))
	for range 3000 {
		checkReadAndMadeAgain(t, anyBlockWords(r))
	}
}

func TestABlockWithAnyOtherWordIsReadAsTheDocumentTells(t *testing.T) {
	r := rand.New(rand.NewSource(13))
	for range 100 {
		words := anyBlockWords(r)
		for place := range words {
			for _, n := range blockNumbers() {
				other := slices.Clone(words)
				other[place] = n
				checkReadAndMadeAgain(t, other)
			}
		}
	}
}

func TestABlockWithTheHeadOfAnotherIsReadAsTheDocumentTells(t *testing.T) {
	r := rand.New(rand.NewSource(14))
	for range 3000 {
		words := anyBlockWords(r)
		words[0] = anyBlockWords(r)[0]
		checkReadAndMadeAgain(t, words)
	}
}

func TestAnyNumbersBehindAHeadAreReadAsTheDocumentTells(t *testing.T) {
	r := rand.New(rand.NewSource(15))
	numbers := blockNumbers()
	for range 20000 {
		words := anyBlockWords(r)
		for place := 1; place < len(words); place++ {
			if r.Intn(3) > 0 {
				words[place] = numbers[r.Intn(8)+4]
			}
		}
		checkReadAndMadeAgain(t, words)
	}
}

func TestAnyNodesPiecesAndGoneOnesArePackedAsTheDocumentTells(t *testing.T) {
	r := rand.New(rand.NewSource(16))
	for range 3000 {
		n, epoch := anyNode(r), anyEpoch(r)
		checkWords(t, "PackNode", n, impl.PackNode(n, epoch), packNodeByRule(n, epoch))
		list, index := anyPiece(r), r.Int63n(4)
		checkWords(t, "PackData", list, impl.PackData(n.Uid, index, list, epoch), packDataByRule(n.Uid, index, list, epoch))
		checkWords(t, "PackGone", n.Uid, impl.PackGone(n.Uid, epoch), packGoneByRule(n.Uid, epoch))
	}
}
