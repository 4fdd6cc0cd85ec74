package tests

import (
	"math"
	"math/rand"
	"reflect"
	"slices"
	"strings"
	"testing"

	"loop.example/g00691/impl"
)

// askedPlan are arguments of all the chapter's functions but SameChanges.
type askedPlan struct {
	words []int64
	op    impl.Op
	clock int64
}

// askedPlans: right words with right ops and with others, and words that are wrong or none at all.
func askedPlans() []askedPlan {
	r := rand.New(rand.NewSource(47))
	var all []askedPlan
	for _, o := range slices.Concat(askedOps(), oneOfEachKind(), farOps()) {
		all = append(all, askedPlan{someKept(), o, 9 + o.Kind}, askedPlan{emptyImage(2, 2), o, o.Index})
	}
	for range 300 {
		words := anyKept(r)
		all = append(all, askedPlan{words, opOn(r, words), words[1] + r.Int63n(3)}, askedPlan{words, opOn(r, words), words[1] - r.Int63n(3)})
	}
	for i, words := range askedImages() {
		// A part of them is enough: what words have a code is asked of the image's own functions.
		if i%4 > 0 {
			continue
		}
		o := oneOfEachKind()[i/4%len(oneOfEachKind())]
		all = append(all, askedPlan{words, o, blockNumbers()[i%len(blockNumbers())]})
	}
	return all
}

type planAnswers struct {
	plan  impl.ChangesResult
	need  impl.IntResult
	after impl.ImageResult
	later impl.ImageResult
}

func answersOfPlan(a askedPlan) planAnswers {
	return planAnswers{impl.PlanOp(a.words, a.op), impl.NeedOf(a.words, a.op), impl.ApplyOp(a.words, a.op), impl.ClockTo(a.words, a.clock)}
}

func checkAskedPlan(t *testing.T, asked askedPlan) {
	t.Helper()
	checkOpOn(t, asked.words, asked.op)
	checkClockTo(t, asked.words, asked.clock)
}

func TestAnyArgumentOfAPlanFunctionIsAnsweredAsTheDocumentTells(t *testing.T) {
	for _, asked := range askedPlans() {
		checkAskedPlan(t, asked)
	}
}

func TestNoArgumentOfAPlanFunctionIsChanged(t *testing.T) {
	for _, asked := range askedPlans() {
		checkUnchanged(t, asked.words, func(words []int64) {
			checkUnchanged(t, asked.op.Numbers, func(list []int64) {
				given := askedPlan{words, asked.op, asked.clock}
				given.op.Numbers = list
				answersOfPlan(given)
			})
		})
	}
	r := rand.New(rand.NewSource(48))
	for range 300 {
		a, b := []impl.Change{anyChange(r), anyChange(r)}, []impl.Change{anyChange(r), anyChange(r)}
		whole := roomy(slices.Concat(a, b), goneTurn(5))
		before := copyOfChanges(whole)
		impl.SameChanges(whole[:2], whole[2:4])
		impl.SameChanges(whole[:2], whole[:2])
		if !reflect.DeepEqual(whole, before) {
			t.Fatalf("SameChanges changed %v to %v", before, whole)
		}
	}
}

// changeSpans: the memory of the changes themselves, and of the Numbers of each.
func changeSpans(changes []impl.Change) []reach {
	spans := []reach{span(changes)}
	for _, c := range changes {
		spans = append(spans, span(c.Numbers))
	}
	return spans
}

func spansOfPlan(a planAnswers) []reach {
	return append(changeSpans(a.plan.Changes), span(a.after.Words), span(a.later.Words))
}

func TestEachAnswerOfAPlanIsNewMemory(t *testing.T) {
	for _, asked := range askedPlans() {
		// All lists of two rounds at once: none of them is an argument's, nor one of another answer.
		checkSpansApart(t, "the answers of a plan", slices.Concat(
			[]reach{span(asked.words), span(asked.op.Numbers)},
			spansOfPlan(answersOfPlan(asked)), spansOfPlan(answersOfPlan(asked))))
	}
}

func TestNoNameOfAChangeIsAPieceOfThePath(t *testing.T) {
	for _, asked := range askedPlans() {
		o := asked.op
		o.Path, o.To = strings.Clone(o.Path), strings.Clone(o.To)
		for _, c := range impl.PlanOp(asked.words, o).Changes {
			if isInside(c.Node.Name, o.Path) || isInside(c.Node.Name, o.To) {
				t.Fatalf("the name %q is a piece of %q or %q", c.Node.Name, o.Path, o.To)
			}
		}
	}
}

func TestAnAnswerOfAPlanThatIsWrittenOverIsNotSeenInTheNextOne(t *testing.T) {
	for _, asked := range askedPlans() {
		first := answersOfPlan(asked)
		for i, c := range first.plan.Changes {
			for j := range c.Numbers {
				c.Numbers[j] = math.MinInt64
			}
			first.plan.Changes[i] = impl.Change{Kind: -1}
		}
		for _, list := range [][]int64{first.after.Words, first.later.Words} {
			for i := range list {
				list[i] = -1
			}
		}
		checkAskedPlan(t, asked)
	}
}

func TestAnswersOfAPlanHangOnTheArgumentsAlone(t *testing.T) {
	for _, asked := range askedPlans() {
		first := answersOfPlan(asked)
		again := asked
		// What is free behind the lists is no part of the arguments.
		again.words = roomy(asked.words, 5)[:len(asked.words)]
		again.op.Numbers = roomy(asked.op.Numbers, 5)[:len(asked.op.Numbers)]
		for range 3 {
			if !reflect.DeepEqual(first, answersOfPlan(again)) {
				t.Fatalf("two calls with the same arguments answer differently: %.1000v", asked.words)
			}
		}
	}
}

func TestBesideACodeOfAPlanAllElseIsZero(t *testing.T) {
	for _, asked := range askedPlans() {
		got := answersOfPlan(asked)
		if got.plan.Code != impl.OK && len(got.plan.Changes) != 0 || got.need.Code != impl.OK && got.need.Value != 0 {
			t.Fatalf("beside a code there is %+v or %+v", got.plan, got.need)
		}
		if got.after.Code != impl.OK && len(got.after.Words) != 0 || got.later.Code != impl.OK && len(got.later.Words) != 0 {
			t.Fatalf("beside a code there is %+v or %+v", got.after, got.later)
		}
	}
}

func TestNilAndEmptyListsOfAPlanAreTheSame(t *testing.T) {
	for _, words := range [][]int64{nil, {}} {
		for _, o := range oneOfEachKind() {
			checkNoPlan(t, "no words", words, o, impl.ErrMany)
		}
		checkWordsResult(t, "no words", impl.ClockTo(words, 5), impl.ImageResult{Code: impl.ErrMany})
	}
	for _, list := range [][]int64{nil, {}} {
		checkPlan(t, someKept(), impl.Op{Kind: impl.OpMake, Path: "/x", Numbers: list}, nodeTurn(42, false, 0, "x", 0))
		checkPlan(t, someKept(), impl.Op{Kind: impl.OpSync, Numbers: list})
		checkNoPlan(t, "no Numbers", someKept(), impl.Op{Kind: impl.OpWrite, Path: "/e", Numbers: list}, impl.ErrMany)
	}
}

func TestTheLeastAndTheGreatestNumbersOfAPlanAreAnswered(t *testing.T) {
	for _, n := range []int64{math.MinInt64, math.MaxInt64} {
		checkNoPlan(t, "words", slices.Repeat([]int64{n}, 16), syncOp(), impl.ErrRange)
		checkNoPlan(t, "a clock", emptyImage(3, n), syncOp(), impl.ErrRange)
		checkNoPlan(t, "a kind", someKept(), impl.Op{Kind: n}, impl.ErrForm)
		checkNoPlan(t, "an index", someKept(), writeOp("/e", n, 1, 2, 3, 4), impl.ErrRange)
		checkNoPlan(t, "an index", someKept(), cutOp("/e", n), impl.ErrRange)
		checkNoPlan(t, "a number", someKept(), writeOp("/e", 0, 1, 2, 3, n), impl.ErrRange)
		checkWordsResult(t, "a clock", impl.ClockTo(someKept(), n), impl.ImageResult{Code: impl.ErrRange})
		far := []impl.Change{{Kind: n, Uid: n, Index: n, Node: impl.Node{Uid: n, Parent: n, Size: n}, Numbers: []int64{n}}}
		checkSameChanges(t, "a change", far, copyOfChanges(far), true)
		checkSameChanges(t, "a change", far, []impl.Change{{}}, false)
	}
}
