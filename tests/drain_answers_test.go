package tests

import (
	"math"
	"math/rand"
	"reflect"
	"slices"
	"strings"
	"testing"

	"loop.example/g00691/impl"
)

// askedDrains: the worlds that are asked of RunWorld, and such as have much to drain.
func askedDrains() []askedWorld {
	r := rand.New(rand.NewSource(67))
	all := askedWorlds()
	for range 20 {
		all = append(all, anyDrain(r, r.Intn(185)))
	}
	rings := append(fullRings(), beginEvent(0, dropOp("/a")), beginEvent(1, syncOp()), beginEvent(2, writeOp("/c", 3, 1, 2, 3, 4)), beginEvent(3, readOp("/d")))
	for _, clock := range []int64{2, 9996, 9997, 9998, 9999} {
		all = append(all, askedWorld{impl.Config{Lines: 41, Threads: 4, Clock: clock}, rings})
	}
	return all
}

// askedFates: right ones, and such as are none.
func askedFates() [][]int64 {
	all := [][]int64{nil, {}, {0}, {1}, {0, 1, 1}, {1, 0, 0, 0, 0}, slices.Repeat([]int64{1}, 41), zeros(1000), append(zeros(40), 2)}
	for _, n := range []int64{math.MinInt64, -1, 2, math.MaxInt64} {
		all = append(all, []int64{n}, []int64{1, 0, n})
	}
	return all
}

// fewFates: for what asks all worlds more than once.
func fewFates() [][]int64 {
	return [][]int64{nil, {0, 1, 1}, {1, 0, 2}}
}

func TestAnyArgumentOfADrainingIsAnsweredAsTheDocumentTells(t *testing.T) {
	list := askedFates()
	for i, asked := range askedDrains() {
		checkDrain(t, asked)
		checkSettle(t, asked)
		// Each of the fates has its turn in many worlds.
		for turn := range 4 {
			checkCrashTree(t, asked, list[(4*i+turn)%len(list)])
		}
	}
}

type drainAnswers struct {
	drained impl.DrainResult
	settled impl.StateResult
	trees   []impl.ItemsResult
}

func answersOfDrain(asked askedWorld, list [][]int64) drainAnswers {
	answers := drainAnswers{drained: impl.DrainWorld(asked.config, asked.events), settled: impl.SettleWorld(asked.config, asked.events)}
	for _, fates := range list {
		answers.trees = append(answers.trees, impl.CrashTree(asked.config, asked.events, fates))
	}
	return answers
}

func (a drainAnswers) spans() []reach {
	spans := slices.Concat(stateSpans(a.drained.State), stateSpans(a.settled.State))
	for _, tree := range a.trees {
		spans = append(spans, itemSpans(tree.Items)...)
	}
	return spans
}

func TestNoArgumentOfADrainingIsChanged(t *testing.T) {
	for _, asked := range askedDrains() {
		given := asked.withRoom()
		before := given.whole()
		var list, held [][]int64
		for _, fates := range askedFates() {
			fates = roomy(fates, -5)
			list, held = append(list, fates[:len(fates)-4]), append(held, slices.Clone(fates))
		}
		answersOfDrain(given, list)
		for i := range list {
			if !slices.Equal(list[i][:len(held[i])], held[i]) {
				t.Fatalf("fates were changed: %v", list[i])
			}
		}
		if !reflect.DeepEqual(given.whole(), before) {
			t.Fatalf("an argument was changed: %.300v", asked)
		}
	}
}

func TestEachAnswerOfADrainingIsNewMemory(t *testing.T) {
	for _, asked := range askedDrains() {
		var given []reach
		for _, fates := range askedFates() {
			given = append(given, span(fates))
		}
		given = append(given, span(asked.events))
		for _, e := range asked.events {
			given = append(given, span(e.Fates), span(e.Op.Numbers))
		}
		list := fewFates()
		first, second := answersOfDrain(asked, list), answersOfDrain(asked, list)
		// All lists of two rounds at once: none of them is one of another answer, or of another note.
		answers := slices.Concat(first.spans(), second.spans())
		checkSpansApart(t, "the answers of a draining", answers)
		for _, a := range answers {
			if slices.ContainsFunc(given, func(b reach) bool { return overlap(a, b) }) {
				t.Fatalf("an answer shares memory with an argument: %.300v", asked)
			}
		}
	}
}

func TestListsOfWhatIsDrainedAreApart(t *testing.T) {
	c := impl.Config{Lines: 12, Threads: 4, Clock: 2}
	one := []int64{1, 2, 3, 4}
	write := impl.Op{Kind: impl.OpWrite, Path: "/a", Numbers: one}
	read := impl.Op{Kind: impl.OpRead, Path: "/a", Numbers: one[4:]}
	// One list is told by two ops; two read what is in it, and what is there has it, too.
	events := append(doing(0, makeFile("/a")), beginEvent(0, write), beginEvent(1, write), beginEvent(2, read), beginEvent(3, read))
	for _, s := range []impl.State{impl.DrainWorld(c, events).State, impl.SettleWorld(c, events).State} {
		checkSpansApart(t, "shared lists", append(stateSpans(s), span(one)))
		checkStateItems(t, "shared lists", s, impl.Item{Path: "/a", Data: []int64{1, 2, 3, 4}})
		checkEnds(t, "shared lists", s, [2]int64{0, 0}, [2]int64{1, 0}, [2]int64{2, 0}, [2]int64{3, 0})
		scribbleState(s)
	}
	if !slices.Equal(one, []int64{1, 2, 3, 4}) {
		t.Errorf("what is written into an answer is seen in the argument: %v", one)
	}
}

func TestNoTextOfADrainingIsAPieceOfAnArgumentOrOfAnotherOne(t *testing.T) {
	for _, asked := range askedDrains() {
		if len(asked.events) > 200 {
			continue
		}
		events := slices.Clone(asked.events)
		for i := range events {
			events[i].Op.Path, events[i].Op.To = strings.Clone(events[i].Op.Path), strings.Clone(events[i].Op.To)
		}
		answers := answersOfDrain(askedWorld{asked.config, events}, [][]int64{nil, {1}})
		lists := [][]string{textsOf(answers.drained.State), textsOf(answers.settled.State)}
		for _, tree := range answers.trees {
			lists = append(lists, textsOf(impl.State{Items: tree.Items}))
		}
		for _, told := range lists {
			for i, text := range told {
				for _, e := range events {
					if isInside(text, e.Op.Path) || isInside(text, e.Op.To) {
						t.Fatalf("the text %q is a piece of an argument", text)
					}
				}
				for _, other := range told[:i] {
					if isInside(text, other) {
						t.Fatalf("the text %q is a piece of another one of the answer", text)
					}
				}
			}
		}
	}
}

func TestAnAnswerOfADrainingThatIsWrittenOverIsNotSeenInTheNextOne(t *testing.T) {
	for _, asked := range askedDrains() {
		first := answersOfDrain(asked, fewFates())
		scribbleState(first.drained.State)
		scribbleState(first.settled.State)
		for i, fates := range fewFates() {
			scribbleItems(first.trees[i].Items)
			checkCrashTree(t, asked, fates)
		}
		checkDrain(t, asked)
		checkSettle(t, asked)
	}
}

func TestAnswersOfADrainingHangOnTheArgumentsAlone(t *testing.T) {
	for _, asked := range askedDrains() {
		first := answersOfDrain(asked, fewFates())
		// What is free behind the lists is no part of the arguments.
		for _, again := range []askedWorld{asked, asked.withRoom(), asked} {
			if !reflect.DeepEqual(first, answersOfDrain(again, fewFates())) {
				t.Fatalf("two calls with the same arguments answer differently: %.300v", asked)
			}
		}
	}
}

func TestBesideACodeOfADrainingAllElseIsZero(t *testing.T) {
	seen := map[int64]int{}
	for _, asked := range askedDrains() {
		answers := answersOfDrain(asked, fewFates())
		if got := answers.drained; got.Code != 0 && (got.Rounds != 0 || !sameStatesByRule(got.State, impl.State{})) {
			t.Fatalf("beside a code there is %+v", got)
		}
		if got := answers.settled; got.Code != 0 && !sameStatesByRule(got.State, impl.State{}) {
			t.Fatalf("beside a code there is %+v", got)
		}
		for _, got := range answers.trees {
			if got.Code != 0 && len(got.Items) > 0 {
				t.Fatalf("beside a code there is %+v", got)
			}
			seen[got.Code]++
		}
		seen[answers.drained.Code]++
	}
	checkSeen(t, seen, impl.OK, impl.ErrMany, impl.ErrRange)
}

func TestNilAndEmptyListsOfADrainingAreTheSame(t *testing.T) {
	for _, asked := range askedDrains() {
		events := slices.Clone(asked.events)
		for i := range events {
			if len(events[i].Fates) == 0 {
				events[i].Fates = []int64{}
			}
			if len(events[i].Op.Numbers) == 0 {
				events[i].Op.Numbers = []int64{}
			}
		}
		other := askedWorld{asked.config, events}
		first, second := answersOfDrain(asked, [][]int64{nil}), answersOfDrain(other, [][]int64{{}})
		checkDrainResult(t, "empty lists", second.drained, first.drained)
		checkStateResult(t, "empty lists", second.settled, first.settled)
		checkItemsResult(t, "empty lists", second.trees[0], first.trees[0])
	}
	checkDrainResult(t, "no events", impl.DrainWorld(smallConfig(), []impl.Event{}), impl.DrainWorld(smallConfig(), nil))
	checkStateResult(t, "no events", impl.SettleWorld(smallConfig(), []impl.Event{}), impl.SettleWorld(smallConfig(), nil))
}
