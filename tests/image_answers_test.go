package tests

import (
	"math"
	"math/rand"
	"reflect"
	"slices"
	"testing"

	"loop.example/g00691/impl"
)

// askedImages: right ones, wrong ones, and what is none at all.
func askedImages() [][]int64 {
	r := rand.New(rand.NewSource(26))
	list := [][]int64{nil, {}, {691691691, 5}, make([]int64, 8), make([]int64, 16), make([]int64, 328), make([]int64, 336), emptyImage(100000, 5)}
	for range 150 {
		words := anyImage(r)
		list = append(list, words)
		for _, n := range blockNumbers() {
			other := slices.Clone(words)
			other[r.Intn(len(other))] = n
			list = append(list, other)
		}
	}
	for _, n := range blockNumbers() {
		list = append(list, slices.Repeat([]int64{n}, 16), emptyImage(3, n), imageOf(5, []int64{n, n, n, n, n, n, n, n}))
	}
	return list
}

func askedLines() []int64 {
	return append(blockNumbers(), 6, 7, 8, 39, 40, 41, 42)
}

type imageAnswers struct {
	clock    impl.IntResult
	versions impl.VersionsResult
	live     impl.LiveResult
	free     impl.IntsResult
	next     impl.IntResult
}

func answersOfImage(words []int64) imageAnswers {
	return imageAnswers{impl.ClockOf(words), impl.VersionsIn(words), impl.LiveOf(words), impl.FreeIn(words), impl.NextUid(words)}
}

func TestNoArgumentOfAnImageFunctionIsChanged(t *testing.T) {
	for _, words := range askedImages() {
		checkUnchanged(t, words, func(given []int64) {
			answersOfImage(given)
		})
	}
}

// numberSpans: the memory of the versions themselves, and of the Numbers of each.
func numberSpans(versions []impl.Version) []reach {
	spans := []reach{span(versions)}
	for _, v := range versions {
		spans = append(spans, span(v.Block.Numbers))
	}
	return spans
}

func spansOfLive(live impl.LiveResult) []reach {
	return slices.Concat(numberSpans(live.Nodes), numberSpans(live.Datas), []reach{span(live.Dead)})
}

func checkSpansApart(t *testing.T, what string, spans []reach) {
	t.Helper()
	for i, a := range spans {
		for _, b := range spans[:i] {
			if overlap(a, b) {
				t.Fatalf("%s: two lists share memory", what)
			}
		}
	}
}

func TestEachAnswerOfAnImageIsNewMemory(t *testing.T) {
	for _, words := range askedImages() {
		first, second := answersOfImage(words), answersOfImage(words)
		// All lists of two rounds at once: none of them is the argument's, nor one of another answer.
		checkSpansApart(t, "the answers of an image", slices.Concat(
			[]reach{span(words), span(first.free.List), span(second.free.List)},
			numberSpans(first.versions.Versions), numberSpans(second.versions.Versions),
			spansOfLive(first.live), spansOfLive(second.live)))
	}
	for _, many := range askedLines() {
		checkSpansApart(t, "FormatActs", []reach{span(impl.FormatActs(many).Acts), span(impl.FormatActs(many).Acts)})
	}
}

func scribbleVersions(versions []impl.Version) {
	for i := range versions {
		for j := range versions[i].Block.Numbers {
			versions[i].Block.Numbers[j] = math.MinInt64
		}
		versions[i] = impl.Version{Line: -1}
	}
}

func TestAnAnswerOfAnImageThatIsWrittenOverIsNotSeenInTheNextOne(t *testing.T) {
	for _, words := range askedImages() {
		first := answersOfImage(words)
		scribbleVersions(first.versions.Versions)
		scribbleVersions(first.live.Nodes)
		scribbleVersions(first.live.Datas)
		for _, list := range [][]int64{first.live.Dead, first.free.List} {
			for i := range list {
				list[i] = -1
			}
		}
		checkImage(t, words)
	}
	for _, many := range askedLines() {
		clear(impl.FormatActs(many).Acts)
		checkActs(t, many, impl.FormatActs(many), formatByRule(many))
	}
}

func TestAnswersOfAnImageHangOnTheArgumentsAlone(t *testing.T) {
	for _, words := range askedImages() {
		first := answersOfImage(words)
		for range 3 {
			if !reflect.DeepEqual(first, answersOfImage(slices.Clone(words))) {
				t.Fatalf("two calls with the same arguments answer differently: %v", words)
			}
		}
	}
	for _, many := range askedLines() {
		if !reflect.DeepEqual(impl.FormatActs(many), impl.FormatActs(many)) {
			t.Errorf("two calls of FormatActs(%d) answer differently", many)
		}
	}
}

func TestAnyArgumentOfAnImageFunctionIsAnsweredAsTheDocumentTells(t *testing.T) {
	for _, words := range askedImages() {
		checkImage(t, words)
	}
	for _, many := range askedLines() {
		checkActs(t, many, impl.FormatActs(many), formatByRule(many))
	}
}

func TestBesideACodeOfAnImageAllElseIsZero(t *testing.T) {
	for _, words := range askedImages() {
		got := answersOfImage(words)
		if got.versions.Code != impl.OK && len(got.versions.Versions) != 0 || got.free.Code != impl.OK && len(got.free.List) != 0 {
			t.Fatalf("beside a code there is %+v or %+v", got.versions, got.free)
		}
		if got.clock.Code != impl.OK && got.clock.Value != 0 || got.next.Code != impl.OK && got.next.Value != 0 {
			t.Fatalf("beside a code there is %+v or %+v", got.clock, got.next)
		}
		live := got.live
		if live.Code != impl.OK && (live.Clock != 0 || len(live.Nodes)+len(live.Datas)+len(live.Dead) != 0) {
			t.Fatalf("beside a code there is %+v", live)
		}
	}
}

func TestAnImageThatIsNilOrEmptyHasTooFewLines(t *testing.T) {
	for _, words := range [][]int64{nil, {}} {
		checkNoClock(t, words, impl.ErrMany)
	}
}

func TestTheLeastAndTheGreatestNumbersInAnImageAreAnswered(t *testing.T) {
	for _, n := range []int64{math.MinInt64, math.MaxInt64} {
		checkNoClock(t, slices.Repeat([]int64{n}, 16), impl.ErrRange)
		checkNoClock(t, slices.Repeat([]int64{n}, 15), impl.ErrMany)
		checkNoClock(t, emptyImage(2, n), impl.ErrRange)
		checkNoClock(t, imageOf(5, []int64{n}), impl.ErrRange)
		checkActs(t, n, impl.FormatActs(n), impl.ActsResult{Code: impl.ErrMany})
	}
}
