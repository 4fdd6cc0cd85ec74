package tests

import (
	"math"
	"math/rand"
	"reflect"
	"slices"
	"strings"
	"testing"

	"loop.example/g00691/impl"
)

// askedItems: right ones, and such as have a fault.
func askedItems() [][]impl.Item {
	r := rand.New(rand.NewSource(37))
	list := [][]impl.Item{nil, {}, someItems(), crowd(59), crowd(60), crowd(61)}
	for range 20 {
		items := anyItems(r)
		list = append(list, items, spoiltItems(r, items))
	}
	return list
}

// farItems are far out of all bounds.
func farItems() [][]impl.Item {
	list := [][]impl.Item{make([]impl.Item, 100000), {{Path: "/a", Data: make([]int64, 100000)}}}
	for _, text := range texts() {
		list = append(list, []impl.Item{dirItem("/a"), fileItem(text, 1, 1)})
	}
	for _, n := range []int64{math.MinInt64, -1, 0, 9999, 10000, math.MaxInt64} {
		list = append(list, []impl.Item{{Path: "/a", Data: []int64{n, n, n, n}}}, []impl.Item{{Path: "/a", Dir: true, Data: []int64{n}}})
	}
	return list
}

// askedOps: right ones of each kind, and such as have a fault.
func askedOps() []impl.Op {
	r := rand.New(rand.NewSource(38))
	list := []impl.Op{
		{}, syncOp(), makeDir("/a/b/x"), makeFile("/new"), writeOp("/a/f", 0, 1, 2, 3, 4), writeOp("/a/f", 2, 1, 2, 3, 4), writeOp("/e", 0, 1, 2, 3, 4),
		cutOp("/z/y", 0), cutOp("/z/y", 2), cutOp("/z/y", 4), dropOp("/e"), dropOp("/ab"), moveOp("/a", "/zz"), moveOp("/z/y", "/y"),
		readOp("/z/y"), readOp("/e"), listOp("/"), listOp("/a"), listOp("/ab"),
	}
	for range 15 {
		list = append(list, anyOp(r, someItems()), anyOp(r, nil))
	}
	return list
}

// farOps are far out of all bounds.
func farOps() []impl.Op {
	list := []impl.Op{writeOp("/a", 0, make([]int64, 100000)...)}
	for _, n := range []int64{math.MinInt64, -1, 0, 4, 9, math.MaxInt64} {
		list = append(list, impl.Op{Kind: n}, impl.Op{Kind: n, Path: "/a", Index: n}, writeOp("/a/f", n, n, n, n, n), cutOp("/a/f", n))
	}
	for _, text := range texts() {
		list = append(list, readOp(text), moveOp("/a", text), moveOp(text, "/a"))
	}
	return list
}

// askedModel are arguments of all the chapter's functions but TreeOf.
type askedModel struct {
	items []impl.Item
	op    impl.Op
	list  []impl.Op
}

func askedModels() []askedModel {
	var all []askedModel
	turns, _ := turnsOf()
	for _, items := range askedItems() {
		for _, o := range askedOps() {
			all = append(all, askedModel{items, o, []impl.Op{o, syncOp(), o}})
		}
		all = append(all, askedModel{items, syncOp(), turns}, askedModel{items, syncOp(), nil}, askedModel{items, syncOp(), make([]impl.Op, 501)})
	}
	for _, items := range farItems() {
		all = append(all, askedModel{items, syncOp(), turns}, askedModel{items, impl.Op{}, nil})
	}
	for _, o := range farOps() {
		all = append(all, askedModel{someItems(), o, []impl.Op{o}}, askedModel{nil, o, []impl.Op{syncOp(), o}})
	}
	return all
}

type modelAnswers struct {
	itemsFault int64
	opFault    int64
	isMutation bool
	done       impl.ModelResult
	run        impl.ItemsResult
	same       bool
}

func answersOfModel(a askedModel) modelAnswers {
	return modelAnswers{
		impl.ItemsFault(a.items), impl.OpFault(a.op), impl.IsMutation(a.op),
		impl.DoModel(a.items, a.op), impl.RunModel(a.items, a.list), impl.SameItems(a.items, someItems()),
	}
}

// withRoom: each list with free places behind it, where a careless append would write.
func (a askedModel) withRoom() askedModel {
	items := slices.Clone(a.items)
	for i := range items {
		items[i].Data = roomy(items[i].Data, -5)[:len(items[i].Data)]
	}
	room := askedModel{op: a.op}
	room.items = roomy(items, impl.Item{Path: "free"})[:len(items)]
	room.op.Numbers = roomy(a.op.Numbers, -5)[:len(a.op.Numbers)]
	room.list = roomy(a.list, impl.Op{Path: "free"})[:len(a.list)]
	return room
}

// whole: all of it that is in memory, with what is free behind each list.
func (a askedModel) whole() askedModel {
	whole := askedModel{op: a.op}
	whole.items = slices.Clone(a.items[:cap(a.items)])
	for i, item := range whole.items {
		whole.items[i].Data = slices.Clone(item.Data[:cap(item.Data)])
	}
	whole.op.Numbers = slices.Clone(a.op.Numbers[:cap(a.op.Numbers)])
	whole.list = slices.Clone(a.list[:cap(a.list)])
	for i, o := range whole.list {
		whole.list[i].Numbers = slices.Clone(o.Numbers[:cap(o.Numbers)])
	}
	return whole
}

func TestNoArgumentOfAModelFunctionIsChanged(t *testing.T) {
	for _, asked := range askedModels() {
		given := asked.withRoom()
		before := given.whole()
		answersOfModel(given)
		if !reflect.DeepEqual(given.whole(), before) {
			t.Fatalf("an argument was changed: %.300v", asked)
		}
	}
	for _, words := range askedImages() {
		checkUnchanged(t, words, func(given []int64) { impl.TreeOf(given) })
	}
}

// itemSpans: the memory of the items themselves, and of the Data of each.
func itemSpans(items []impl.Item) []reach {
	spans := []reach{span(items)}
	for _, item := range items {
		spans = append(spans, span(item.Data))
	}
	return spans
}

func spansOfAnswers(a modelAnswers) []reach {
	return slices.Concat(itemSpans(a.done.Items), []reach{span(a.done.Numbers), span(a.done.Names)}, itemSpans(a.run.Items))
}

func TestEachAnswerOfAModelIsNewMemory(t *testing.T) {
	for _, asked := range askedModels() {
		given := append(itemSpans(asked.items), span(asked.op.Numbers), span(asked.list))
		for _, o := range asked.list {
			given = append(given, span(o.Numbers))
		}
		answers := slices.Concat(spansOfAnswers(answersOfModel(asked)), spansOfAnswers(answersOfModel(asked)))
		checkSpansApart(t, "the answers of a model", answers)
		// The lists of the arguments need not be apart: an op may be asked twice.
		for _, a := range answers {
			if slices.ContainsFunc(given, func(b reach) bool { return overlap(a, b) }) {
				t.Fatalf("an answer shares memory with an argument: %.300v", asked)
			}
		}
	}
	for _, words := range askedImages() {
		checkSpansApart(t, "TreeOf", slices.Concat([]reach{span(words)}, itemSpans(impl.TreeOf(words).Items), itemSpans(impl.TreeOf(words).Items)))
	}
}

func TestListsThatShareMemoryInTheArgumentsAreApartInTheAnswer(t *testing.T) {
	one := slices.Repeat(pieceNumbers(1), 4)
	items := []impl.Item{{Path: "/a", Data: one}, {Path: "/b", Data: one}, {Path: "/c", Data: one[:8]}, {Path: "/d", Data: one[4:8]}}
	for _, o := range []impl.Op{syncOp(), readOp("/b"), listOp("/"), writeOp("/a", 1, one[:4]...), writeOp("/c", 2, one[4:8]...), cutOp("/b", 2), cutOp("/a", 4), moveOp("/a", "/e"), dropOp("/d"), makeFile("/e")} {
		twice := askedModel{items, o, []impl.Op{writeOp("/c", 0, one[:4]...), writeOp("/d", 1, one[:4]...), writeOp("/d", 0, one[:4]...)}}
		checkSpansApart(t, "lists that are shared", append(spansOfAnswers(answersOfModel(twice)), span(one)))
		checkModel(t, twice)
	}
}

// ownTexts: the same items and op, whose texts stand in a memory of their own.
func ownTexts(a askedModel) askedModel {
	own := askedModel{items: slices.Clone(a.items), op: a.op}
	for i := range own.items {
		own.items[i].Path = strings.Clone(own.items[i].Path)
	}
	own.op.Path, own.op.To = strings.Clone(own.op.Path), strings.Clone(own.op.To)
	own.list = []impl.Op{own.op}
	return own
}

func TestNoTextOfAModelIsAPieceOfAnArgumentOrOfAnotherOne(t *testing.T) {
	for _, asked := range askedModels() {
		if len(asked.items) > 100 {
			continue
		}
		own := ownTexts(asked)
		given := []string{own.op.Path, own.op.To}
		for _, item := range own.items {
			given = append(given, item.Path)
		}
		answers := answersOfModel(own)
		var paths []string
		for _, item := range slices.Concat(answers.done.Items, answers.run.Items) {
			paths = append(paths, item.Path)
		}
		for _, whole := range slices.Concat(given, paths) {
			for _, name := range answers.done.Names {
				if isInside(name, whole) {
					t.Fatalf("the name %q is a piece of %q", name, whole)
				}
			}
		}
		for _, whole := range given {
			for _, path := range paths {
				if isInside(path, whole) {
					t.Fatalf("the path %q is a piece of an argument", path)
				}
			}
		}
	}
}

func scribbleItems(items []impl.Item) {
	for i := range items {
		for j := range items[i].Data {
			items[i].Data[j] = math.MinInt64
		}
		items[i] = impl.Item{Path: "scribbled"}
	}
}

func TestAnAnswerOfAModelThatIsWrittenOverIsNotSeenInTheNextOne(t *testing.T) {
	for _, asked := range askedModels() {
		first := answersOfModel(asked)
		scribbleItems(first.done.Items)
		scribbleItems(first.run.Items)
		for i := range first.done.Numbers {
			first.done.Numbers[i] = -1
		}
		for i := range first.done.Names {
			first.done.Names[i] = "scribbled"
		}
		checkModel(t, asked)
	}
	for _, words := range askedImages() {
		scribbleItems(impl.TreeOf(words).Items)
		checkTree(t, words)
	}
}

func checkModel(t *testing.T, asked askedModel) {
	t.Helper()
	checkItemsFault(t, "any items", asked.items, itemsFaultByRule(asked.items))
	checkOpFault(t, asked.op, opFaultByRule(asked.op))
	checkDone(t, asked.items, asked.op, doByRule(asked.items, asked.op))
	checkItemsResult(t, "RunModel", impl.RunModel(asked.items, asked.list), runByRule(asked.items, asked.list))
}

func TestAnyArgumentOfAModelFunctionIsAnsweredAsTheDocumentTells(t *testing.T) {
	for _, asked := range askedModels() {
		checkModel(t, asked)
	}
	for _, words := range askedImages() {
		checkTree(t, words)
	}
}

func TestAnswersOfAModelHangOnTheArgumentsAlone(t *testing.T) {
	for _, asked := range askedModels() {
		first := answersOfModel(asked)
		// What is free behind the lists is no part of the arguments.
		for _, again := range []askedModel{asked, asked.withRoom()} {
			if !reflect.DeepEqual(first, answersOfModel(again)) {
				t.Fatalf("two calls with the same arguments answer differently: %.300v", asked)
			}
		}
	}
	for _, words := range askedImages() {
		first := impl.TreeOf(words)
		for range 3 {
			if !reflect.DeepEqual(first, impl.TreeOf(slices.Clone(words))) {
				t.Fatalf("two calls of TreeOf answer differently: %v", words)
			}
		}
	}
}

func TestBesideACodeOfAModelAllElseIsZero(t *testing.T) {
	for _, asked := range askedModels() {
		got := answersOfModel(asked)
		if got.done.Code != impl.OK && len(got.done.Items)+len(got.done.Numbers)+len(got.done.Names) != 0 {
			t.Fatalf("beside a code there is %+v", got.done)
		}
		if got.run.Code != impl.OK && len(got.run.Items) != 0 {
			t.Fatalf("beside a code there is %+v", got.run)
		}
	}
	for _, words := range askedImages() {
		if got := impl.TreeOf(words); got.Code != impl.OK && len(got.Items) != 0 {
			t.Fatalf("beside a code there is %+v", got)
		}
	}
}

func TestNilAndEmptyListsOfAModelAreTheSame(t *testing.T) {
	for _, items := range [][]impl.Item{nil, {}} {
		for _, list := range [][]int64{nil, {}} {
			checkTurned(t, items, impl.Op{Kind: impl.OpMake, Path: "/a", Numbers: list}, []impl.Item{{Path: "/a", Data: list}})
			checkDone(t, []impl.Item{{Path: "/a", Data: list}}, readOp("/a"), impl.ModelResult{Items: []impl.Item{{Path: "/a"}}})
			checkNotDone(t, items, impl.Op{Kind: impl.OpWrite, Path: "/a", Numbers: list}, impl.ErrMany)
		}
		checkTurned(t, items, syncOp(), nil)
	}
	checkNoTree(t, "nil", nil, impl.ErrMany)
	checkNoTree(t, "no words", []int64{}, impl.ErrMany)
}
