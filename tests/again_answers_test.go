package tests

import (
	"math"
	"math/rand"
	"reflect"
	"slices"
	"testing"

	"loop.example/g00691/impl"
)

// askedCrash are arguments of all the chapter's functions.
type askedCrash struct {
	words []int64
	lines int64
	cut   int64
	cuts  []int64
	fates []int64
}

func askedCuts() [][]int64 {
	all := [][]int64{
		nil, {}, {0}, {1, 3, 6}, {5, 4, 3, 2, 1, 0}, {0, 1, -1}, {0, 0, math.MinInt64}, {-1, 0},
		zeros(6), zeros(7), zeros(100000), slices.Repeat([]int64{math.MaxInt64}, 6), slices.Repeat([]int64{math.MinInt64}, 7),
	}
	for _, n := range blockNumbers() {
		all = append(all, []int64{n}, []int64{2, n})
	}
	return all
}

// askedCrashes: right words with right crashes and with others, and words that are wrong or none at all.
func askedCrashes() []askedCrash {
	r := rand.New(rand.NewSource(96))
	cuts, fates, numbers := askedCuts(), askedFates(), askedLines()
	var all []askedCrash
	for _, words := range [][]int64{manyDead(), someKept(), emptyImage(2, 2), filled(5, pieceBlock(9, 3, 4)), make([]int64, 16), nil} {
		for i := range max(len(cuts), len(fates), len(numbers)) {
			all = append(all, askedCrash{words, numbers[i%len(numbers)], numbers[(i+7)%len(numbers)], cuts[i%len(cuts)], fates[i%len(fates)]})
			all = append(all, askedCrash{words, 2 + r.Int63n(40), r.Int63n(20), cuts[r.Intn(len(cuts))], fates[r.Intn(len(fates))]})
		}
	}
	for i, words := range askedImages() {
		// A part of them is enough: what words have a code is asked of the image's own functions.
		if i%6 > 0 {
			continue
		}
		many := int64(len(impl.MountActs(words).Acts))
		all = append(all, askedCrash{words, numbers[i/6%len(numbers)], numbers[i/6%len(numbers)], cuts[i/6%len(cuts)], fates[i/6%len(fates)]})
		all = append(all, askedCrash{words, 2 + r.Int63n(40), r.Int63n(many + 2), []int64{r.Int63n(many + 1), r.Int63n(many + 9)}, anyFates(r, r.Intn(9))})
	}
	for _, list := range wordsWithCodes() {
		for _, words := range list {
			all = append(all, askedCrash{words, 3, 2, []int64{0}, []int64{1}})
		}
	}
	return all
}

type crashAnswers struct {
	format  impl.WordsListResult
	isClean bool
	acts    impl.ActsResult
	mounted impl.WordsListResult
	crashed impl.WordsListResult
	chained impl.WordsListResult
}

func answersOfCrash(a askedCrash) crashAnswers {
	return crashAnswers{
		impl.FormatCrash(a.lines, a.cut, a.fates), impl.IsClean(a.words), impl.MountActs(a.words), impl.MountWords(a.words),
		impl.MountCrash(a.words, a.cut, a.fates), impl.MountChain(a.words, a.cuts, a.fates),
	}
}

func (a crashAnswers) lists() [][]int64 {
	return [][]int64{a.format.Words, a.mounted.Words, a.crashed.Words, a.chained.Words}
}

func (a crashAnswers) spans() []reach {
	spans := []reach{span(a.acts.Acts)}
	for _, list := range a.lists() {
		spans = append(spans, span(list))
	}
	return spans
}

func (a askedCrash) spans() []reach {
	return []reach{span(a.words), span(a.cuts), span(a.fates)}
}

// withRoom: the same arguments, with memory of its own that is free behind each list.
func (a askedCrash) withRoom() askedCrash {
	a.words = roomy(a.words, 5)[:len(a.words)]
	a.cuts = roomy(a.cuts, 1)[:len(a.cuts)]
	a.fates = roomy(a.fates, 1)[:len(a.fates)]
	return a
}

// scribbleCrash writes over all that was answered.
func scribbleCrash(a crashAnswers) {
	for _, list := range a.lists() {
		for i := range list {
			list[i] = -1
		}
	}
	for i := range a.acts.Acts {
		a.acts.Acts[i] = impl.Act{Kind: -1}
	}
}

func checkAskedCrash(t *testing.T, asked askedCrash) {
	t.Helper()
	checkFormatCrash(t, asked.lines, asked.cut, asked.fates)
	checkMount(t, asked.words)
	checkMountCrash(t, asked.words, asked.cut, asked.fates)
	checkChain(t, asked.words, asked.cuts, asked.fates)
}

func TestAnyArgumentOfACrashFunctionIsAnsweredAsTheDocumentTells(t *testing.T) {
	for _, asked := range askedCrashes() {
		checkAskedCrash(t, asked)
	}
}

func TestNoArgumentOfACrashFunctionIsChanged(t *testing.T) {
	for _, asked := range askedCrashes() {
		checkUnchanged(t, asked.words, func(words []int64) {
			checkUnchanged(t, asked.cuts, func(cuts []int64) {
				checkUnchanged(t, asked.fates, func(fates []int64) {
					answersOfCrash(askedCrash{words, asked.lines, asked.cut, cuts, fates})
				})
			})
		})
	}
}

func TestEachAnswerOfACrashIsNewMemory(t *testing.T) {
	for _, asked := range askedCrashes() {
		// All lists of two rounds at once: none of them is an argument's, nor one of another answer.
		checkSpansApart(t, "the answers of a crash", slices.Concat(asked.spans(), answersOfCrash(asked).spans(), answersOfCrash(asked).spans()))
	}
}

func TestOneListThatIsAllArgumentsOfACrashIsNotShared(t *testing.T) {
	for _, list := range [][]int64{{0}, {1, 0}, {0, 0, 0, 0, 0, 0}, emptyImage(2, 2), manyDead(), nil} {
		asked := askedCrash{list, 2, 1, list, list}
		checkUnchanged(t, list, func(given []int64) {
			answersOfCrash(askedCrash{given, 2, 1, given, given})
		})
		checkSpansApart(t, "one list", append(answersOfCrash(asked).spans(), span(list)))
		checkAskedCrash(t, asked)
	}
}

func TestAnAnswerOfACrashThatIsWrittenOverIsNotSeenInTheNextOne(t *testing.T) {
	for _, asked := range askedCrashes() {
		scribbleCrash(answersOfCrash(asked))
		checkAskedCrash(t, asked)
	}
}

func TestAnswersOfACrashHangOnTheArgumentsAlone(t *testing.T) {
	for _, asked := range askedCrashes() {
		first := answersOfCrash(asked)
		// What is free behind the lists is no part of the arguments.
		for _, again := range []askedCrash{asked, asked.withRoom(), asked} {
			if !reflect.DeepEqual(first, answersOfCrash(again)) {
				t.Fatalf("two calls with the same arguments answer differently: %.1000v", asked)
			}
		}
	}
}

func TestBesideACodeOfACrashAllElseIsZero(t *testing.T) {
	seen := map[int64]int{}
	for _, asked := range askedCrashes() {
		a := answersOfCrash(asked)
		for _, got := range []impl.WordsListResult{a.format, a.mounted, a.crashed, a.chained} {
			if got.Code != 0 && len(got.Words) > 0 || got.Code == 0 && len(got.Words) == 0 {
				t.Fatalf("beside the code %d there is %v", got.Code, got.Words)
			}
			seen[got.Code]++
		}
		if a.acts.Code != 0 && len(a.acts.Acts) > 0 || a.acts.Code == 0 && len(a.acts.Acts) == 0 {
			t.Fatalf("beside the code %d there is %v", a.acts.Code, a.acts.Acts)
		}
		if a.isClean != (a.acts.Code == 0 && len(a.acts.Acts) == 1) {
			t.Fatalf("it is clean: %v, but there is %+v", a.isClean, a.acts)
		}
	}
	checkSeen(t, seen, impl.OK, impl.ErrMany, impl.ErrRange, impl.ErrForm, impl.ErrText, impl.ErrState)
}

func TestNilAndEmptyListsOfACrashAreTheSame(t *testing.T) {
	empty := []int64{}
	for _, asked := range askedCrashes() {
		checkLeft(t, "empty fates", impl.FormatCrash(asked.lines, asked.cut, empty), impl.FormatCrash(asked.lines, asked.cut, nil))
		checkLeft(t, "empty fates", impl.MountCrash(asked.words, asked.cut, empty), impl.MountCrash(asked.words, asked.cut, nil))
		checkLeft(t, "empty fates", impl.MountChain(asked.words, asked.cuts, empty), impl.MountChain(asked.words, asked.cuts, nil))
		checkLeft(t, "empty cuts", impl.MountChain(asked.words, empty, asked.fates), impl.MountChain(asked.words, nil, asked.fates))
	}
	for _, words := range [][]int64{nil, empty} {
		checkLeftCode(t, "no words", checkMountCrash(t, words, 0, nil), impl.ErrMany)
		checkLeftCode(t, "no words", checkChain(t, words, nil, nil), impl.ErrMany)
		if checkMount(t, words).Code != impl.ErrMany || impl.IsClean(words) {
			t.Error("no words are clean, or come up")
		}
	}
}

func TestTheLeastAndTheGreatestNumbersOfACrashAreAnswered(t *testing.T) {
	for _, n := range []int64{math.MinInt64, math.MaxInt64} {
		checkLeftCode(t, "lines", checkFormatCrash(t, n, 0, nil), impl.ErrMany)
		checkLeftCode(t, "a cut", checkFormatCrash(t, 2, n, nil), impl.ErrRange)
		checkLeftCode(t, "a fate", checkFormatCrash(t, 2, 0, []int64{n}), impl.ErrRange)
		checkLeftCode(t, "a cut", checkMountCrash(t, someKept(), n, nil), impl.ErrRange)
		checkLeftCode(t, "a fate", checkMountCrash(t, someKept(), 0, []int64{n}), impl.ErrRange)
		checkLeftCode(t, "a word", checkMountCrash(t, emptyImage(2, n), 0, nil), impl.ErrRange)
		checkLeftCode(t, "a word", checkChain(t, slices.Repeat([]int64{n}, 16), []int64{0}, nil), impl.ErrRange)
		checkLeftCode(t, "a fate", checkChain(t, someKept(), []int64{0}, []int64{n}), impl.ErrRange)
	}
	checkLeftCode(t, "a cut", checkChain(t, someKept(), []int64{math.MinInt64}, nil), impl.ErrRange)
	checkLeft(t, "a cut", checkChain(t, manyDead(), slices.Repeat([]int64{math.MaxInt64}, 6), nil), impl.WordsListResult{Words: swept(manyDead())})
}
