package tests

import (
	"math"
	"testing"

	"loop.example/g00691/impl"
)

const greatestHeadWord = 3 + 4*(4*(999+1000*9999))

// wordByRule is the document's sum, spelt as it stands there.
func wordByRule(h impl.Head) int64 {
	return h.Kind + 4*(h.Index+4*(h.Uid+1000*h.Epoch))
}

func checkHead(t *testing.T, h impl.Head) {
	t.Helper()
	if got := impl.HeadFault(h); got != impl.OK {
		t.Fatalf("HeadFault(%+v) = %d", h, got)
	}
	want := wordByRule(h)
	if got := impl.HeadWord(h); got != (impl.IntResult{Value: want}) {
		t.Fatalf("HeadWord(%+v) = %+v, want %d", h, got, want)
	}
	if got := impl.WordHead(want); got != (impl.HeadResult{Head: h}) {
		t.Fatalf("WordHead(%d) = %+v, want %+v", want, got, h)
	}
}

func checkHeadsOf(t *testing.T, uid int64, epoch int64) {
	t.Helper()
	checkHead(t, impl.Head{Kind: impl.KindNode, Uid: uid, Epoch: epoch})
	checkHead(t, impl.Head{Kind: impl.KindGone, Uid: uid, Epoch: epoch})
	for index := int64(0); index <= impl.MaxIndex; index++ {
		checkHead(t, impl.Head{Kind: impl.KindData, Uid: uid, Index: index, Epoch: epoch})
	}
}

func TestHeadsAreToldBack(t *testing.T) {
	checkHead(t, impl.Head{})
	for uid := int64(1); uid <= impl.MaxUid; uid++ {
		for _, epoch := range []int64{1, 2, 3, 1000, 5000, 9998, 9999} {
			checkHeadsOf(t, uid, epoch)
		}
	}
	for epoch := int64(1); epoch <= impl.MaxEpoch; epoch++ {
		for _, uid := range []int64{1, 2, 15, 16, 500, 998, 999} {
			checkHeadsOf(t, uid, epoch)
		}
	}
}

func TestWordsOfHeads(t *testing.T) {
	cases := []struct {
		head impl.Head
		word int64
	}{
		{impl.Head{}, 0},
		{impl.Head{Kind: impl.KindNode, Uid: 1, Epoch: 2}, 32017},
		{impl.Head{Kind: impl.KindNode, Uid: 1, Epoch: 1}, 16017},
		{impl.Head{Kind: impl.KindData, Uid: 1, Index: 3, Epoch: 1}, 16030},
		{impl.Head{Kind: impl.KindGone, Uid: 999, Epoch: 9999}, greatestHeadWord},
		{impl.Head{Kind: impl.KindData, Uid: 999, Index: 3, Epoch: 9999}, 159999998},
	}
	for _, c := range cases {
		if got := impl.HeadWord(c.head); got != (impl.IntResult{Value: c.word}) {
			t.Errorf("HeadWord(%+v) = %+v, want %d", c.head, got, c.word)
		}
		if got := impl.WordHead(c.word); got != (impl.HeadResult{Head: c.head}) {
			t.Errorf("WordHead(%d) = %+v, want %+v", c.word, got, c.head)
		}
	}
}

// isHeadByRule says the document's sentence of heads once more, by itself.
func isHeadByRule(h impl.Head) bool {
	switch h.Kind {
	case 0:
		return h == impl.Head{}
	case 1, 3:
		return h.Index == 0 && h.Uid >= 1 && h.Uid <= 999 && h.Epoch >= 1 && h.Epoch <= 9999
	case 2:
		return h.Index >= 0 && h.Index <= 3 && h.Uid >= 1 && h.Uid <= 999 && h.Epoch >= 1 && h.Epoch <= 9999
	}
	return false
}

func TestHeadsAtAllBounds(t *testing.T) {
	far := []int64{math.MinInt64, math.MinInt64 + 1, -4, -1, math.MaxInt32 + 1, 1 << 62, math.MaxInt64 - 1, math.MaxInt64}
	for _, kind := range append([]int64{0, 1, 2, 3, 4, 5}, far...) {
		for _, uid := range append([]int64{0, 1, 2, 998, 999, 1000, 1001}, far...) {
			for _, index := range append([]int64{0, 1, 2, 3, 4, 5}, far...) {
				for _, epoch := range append([]int64{0, 1, 2, 9998, 9999, 10000, 10001}, far...) {
					h := impl.Head{Kind: kind, Uid: uid, Index: index, Epoch: epoch}
					if isHeadByRule(h) {
						checkHead(t, h)
						continue
					}
					if got := impl.HeadFault(h); got != impl.ErrRange {
						t.Fatalf("HeadFault(%+v) = %d", h, got)
					}
					if got := impl.HeadWord(h); got != (impl.IntResult{Code: impl.ErrRange}) {
						t.Fatalf("HeadWord(%+v) = %+v", h, got)
					}
				}
			}
		}
	}
}

func TestWrongHeads(t *testing.T) {
	wrong := []impl.Head{
		{Kind: impl.KindNode, Uid: 1, Index: 1, Epoch: 1},
		{Kind: impl.KindGone, Uid: 1, Index: 3, Epoch: 1},
		{Kind: impl.KindData, Uid: 1, Index: 4, Epoch: 1},
		{Kind: impl.KindData, Uid: 1, Index: -1, Epoch: 1},
		{Kind: impl.KindData, Uid: 0, Epoch: 1},
		{Kind: impl.KindNode, Uid: 1000, Epoch: 1},
		{Kind: impl.KindNode, Uid: 1, Epoch: 0},
		{Kind: impl.KindGone, Uid: 1, Epoch: 10000},
		{Kind: impl.KindFree, Uid: 1},
		{Kind: impl.KindFree, Index: 1},
		{Kind: impl.KindFree, Epoch: 1},
		{Kind: impl.KindFree, Uid: 1, Epoch: 1},
		{Kind: impl.KindFree, Uid: -1},
		{Kind: 4, Uid: 1, Epoch: 1},
		{Kind: 4},
		{Kind: -1, Uid: 1, Epoch: 1},
	}
	for _, h := range wrong {
		if impl.HeadFault(h) != impl.ErrRange || impl.HeadWord(h) != (impl.IntResult{Code: impl.ErrRange}) {
			t.Errorf("%+v: HeadFault %d, HeadWord %+v", h, impl.HeadFault(h), impl.HeadWord(h))
		}
	}
}

// checkHeadWord takes a word apart from its least digit on, and asks whether that is a head.
func checkHeadWord(t *testing.T, word int64) {
	t.Helper()
	h := impl.Head{Kind: word % 4, Index: word / 4 % 4, Uid: word / 16 % 1000, Epoch: word / 16000}
	want := impl.HeadResult{Code: impl.ErrForm}
	if isHeadByRule(h) {
		want = impl.HeadResult{Head: h}
	}
	if got := impl.WordHead(word); got != want {
		t.Fatalf("WordHead(%d) = %+v, want %+v", word, got, want)
	}
}

func TestEachWordIsOfOneHeadOrOfNone(t *testing.T) {
	for word := int64(0); word <= 50000; word++ {
		checkHeadWord(t, word)
	}
	for word := int64(0); word <= greatestHeadWord+100000; word += 997 {
		checkHeadWord(t, word)
	}
	for word := int64(greatestHeadWord - 50000); word <= greatestHeadWord+50000; word++ {
		checkHeadWord(t, word)
	}
}

func TestWrongHeadWords(t *testing.T) {
	words := []int64{
		math.MinInt64, math.MinInt64 + 1, -32017, -16000, -16, -4, -1,
		1, 2, 3, 4, 5, 8, 12, 15, 16, 17, 18, 19, 15999, 16000, 16001, 16002, 16003, 16016, 16021, 16029, 16023,
		greatestHeadWord + 1, 160000017, 999999999999999, 1000000000000000,
		1<<53 + 1, 1 << 62, math.MaxInt64 - 1, math.MaxInt64,
	}
	for _, word := range words {
		if got := impl.WordHead(word); got != (impl.HeadResult{Code: impl.ErrForm}) {
			t.Errorf("WordHead(%d) = %+v", word, got)
		}
	}
}
