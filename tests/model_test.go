package tests

import (
	"fmt"
	"math/rand"
	"slices"
	"strings"
	"testing"

	"loop.example/g00691/impl"
)

func checkNotDone(t *testing.T, items []impl.Item, o impl.Op, code int64) {
	t.Helper()
	checkDone(t, items, o, impl.ModelResult{Code: code})
}

// checkTurned: o leaves these items, and tells nothing else.
func checkTurned(t *testing.T, items []impl.Item, o impl.Op, want []impl.Item) {
	t.Helper()
	checkDone(t, items, o, impl.ModelResult{Items: want})
}

func TestAFaultOfTheItemsIsAskedAheadOfTheOpAndThatAheadOfWhatThereIs(t *testing.T) {
	ops := []impl.Op{{}, {Kind: 9}, syncOp(), makeDir("/"), makeDir("x"), makeDir("/a"), listOp("/"), readOp("/"), writeOp("/a", 9), moveOp("/a", "b")}
	for _, o := range ops {
		for _, wrong := range faultyItems() {
			checkNotDone(t, []impl.Item{wrong.item}, o, wrong.code)
		}
		for _, items := range misplacedItems() {
			checkNotDone(t, items, o, itemsFaultByRule(items))
		}
		checkNotDone(t, crowd(61), o, impl.ErrMany)
	}
	for _, o := range []impl.Op{{}, {Kind: 9}, {Kind: impl.OpSync, Path: "/"}, {Kind: impl.OpDrop, Path: "/", Dir: true}} {
		checkNotDone(t, someItems(), o, impl.ErrForm)
	}
	checkNotDone(t, someItems(), makeDir("/a/b/c/d/e"), impl.ErrMany)
	checkNotDone(t, someItems(), readOp("x"), impl.ErrText)
	checkNotDone(t, someItems(), moveOp("/", "x"), impl.ErrText)
	checkNotDone(t, someItems(), writeOp("/", 4, 1, 2, 3, 4), impl.ErrRange)
	checkNotDone(t, someItems(), writeOp("/", 0, 1, 2, 3), impl.ErrMany)
}

func TestMaking(t *testing.T) {
	checkTurned(t, nil, makeDir("/a"), []impl.Item{dirItem("/a")})
	checkTurned(t, nil, makeFile("/a"), []impl.Item{fileItem("/a", 0, 0)})
	for _, path := range []string{"/aa", "/b", "/zz", "/a/a", "/a/bb", "/a/b/d", "/a/b/c/a", "/a/b/c/e", "/ab/a", "/z/a", "/z/z"} {
		checkTurned(t, someItems(), makeDir(path), withItem(someItems(), dirItem(path)))
		checkTurned(t, someItems(), makeFile(path), withItem(someItems(), fileItem(path, 0, 0)))
	}
}

func TestMakingWhatCannotBeMade(t *testing.T) {
	for _, isDir := range []bool{false, true} {
		codes := map[string]int64{
			"/":          impl.ErrTaken,
			"/x/y":       impl.ErrNone,
			"/a/x/y":     impl.ErrNone,
			"/e/x/y":     impl.ErrNone,
			"/abc/x":     impl.ErrNone,
			"/e/x":       impl.ErrForm,
			"/a/f/x":     impl.ErrForm,
			"/z/y/x":     impl.ErrForm,
			"/a/b/c/d/e": impl.ErrMany,
			"/a":         impl.ErrTaken,
			"/a/b/c/d":   impl.ErrTaken,
			"/e":         impl.ErrTaken,
			"/z/y":       impl.ErrTaken,
		}
		for path, code := range codes {
			checkNotDone(t, someItems(), impl.Op{Kind: impl.OpMake, Path: path, Dir: isDir}, code)
		}
		checkNotDone(t, nil, impl.Op{Kind: impl.OpMake, Path: "/", Dir: isDir}, impl.ErrTaken)
		checkNotDone(t, nil, impl.Op{Kind: impl.OpMake, Path: "/a/b", Dir: isDir}, impl.ErrNone)
	}
}

func TestMakingTheOneBehindTheLastThatThereMayBe(t *testing.T) {
	checkTurned(t, crowd(59), makeDir("/zz"), append(crowd(59), dirItem("/zz")))
	checkNotDone(t, crowd(60), makeDir("/zz"), impl.ErrFull)
	checkNotDone(t, crowd(60), makeFile("/aaa"), impl.ErrFull)
	// All else is asked ahead of it.
	checkNotDone(t, crowd(60), makeFile("/"), impl.ErrTaken)
	checkNotDone(t, crowd(60), makeFile("/zz/a"), impl.ErrNone)
	checkNotDone(t, crowd(60), makeFile("/ab/a"), impl.ErrForm)
	checkNotDone(t, crowd(60), makeFile("/ab"), impl.ErrTaken)
	// What makes nothing is done, however many there are.
	checkTurned(t, crowd(60), dropOp("/ab"), withoutPath(crowd(60), "/ab"))
	checkTurned(t, crowd(60), moveOp("/ab", "/zz"), withItem(withoutPath(crowd(60), "/ab"), fileItem("/zz", 0, 0)))
	checkTurned(t, crowd(60), writeOp("/ab", 0, pieceNumbers(3)...), withItem(crowd(60), fileItem("/ab", 1, 3)))
}

// files: of each how many pieces it has, and by what their numbers begin.
func files() map[string][2]int64 {
	return map[string][2]int64{"/e": {0, 0}, "/a/b/c/d": {1, 10}, "/a/f": {2, 20}, "/z/x": {3, 30}, "/z/y": {4, 40}}
}

func TestWriting(t *testing.T) {
	for path, has := range files() {
		for index := range int64(4) {
			o := writeOp(path, index, pieceNumbers(77)...)
			if index > has[0] {
				checkNotDone(t, someItems(), o, impl.ErrRange)
				continue
			}
			want := fileItem(path, max(has[0], index+1), has[1])
			copy(want.Data[4*index:], pieceNumbers(77))
			checkTurned(t, someItems(), o, withItem(someItems(), want))
		}
	}
}

func TestCutting(t *testing.T) {
	for path, has := range files() {
		for index := range int64(5) {
			if index > has[0] {
				checkNotDone(t, someItems(), cutOp(path, index), impl.ErrRange)
				continue
			}
			checkTurned(t, someItems(), cutOp(path, index), withItem(someItems(), fileItem(path, index, has[1])))
		}
	}
}

func TestReading(t *testing.T) {
	for path, has := range files() {
		want := impl.ModelResult{Items: someItems(), Numbers: fileItem(path, has[0], has[1]).Data}
		checkDone(t, someItems(), readOp(path), want)
	}
}

func TestWritingCuttingAndReadingWhatIsNoFile(t *testing.T) {
	codes := map[string]int64{
		"/": impl.ErrForm, "/x": impl.ErrNone, "/a/x": impl.ErrNone, "/x/y": impl.ErrNone, "/e/x": impl.ErrNone, "/f": impl.ErrNone,
		"/a": impl.ErrForm, "/a/b": impl.ErrForm, "/a/b/c": impl.ErrForm, "/ab": impl.ErrForm, "/z": impl.ErrForm,
	}
	for path, code := range codes {
		for index := range int64(4) {
			checkNotDone(t, someItems(), writeOp(path, index, 1, 2, 3, 4), code)
			checkNotDone(t, someItems(), cutOp(path, index), code)
		}
		checkNotDone(t, someItems(), readOp(path), code)
	}
	for _, o := range []impl.Op{writeOp("/", 0, 1, 2, 3, 4), cutOp("/", 0), readOp("/")} {
		checkNotDone(t, nil, o, impl.ErrForm)
	}
}

func TestDropping(t *testing.T) {
	for _, path := range []string{"/a/b/c/d", "/a/f", "/ab", "/e", "/z/x", "/z/y"} {
		checkTurned(t, someItems(), dropOp(path), withoutPath(someItems(), path))
	}
	codes := map[string]int64{
		"/": impl.ErrForm, "/x": impl.ErrNone, "/a/x": impl.ErrNone, "/e/x": impl.ErrNone, "/d": impl.ErrNone,
		"/a": impl.ErrState, "/a/b": impl.ErrState, "/a/b/c": impl.ErrState, "/z": impl.ErrState,
	}
	for path, code := range codes {
		checkNotDone(t, someItems(), dropOp(path), code)
	}
	checkNotDone(t, nil, dropOp("/"), impl.ErrForm)
	checkNotDone(t, nil, dropOp("/a"), impl.ErrNone)
	checkTurned(t, []impl.Item{dirItem("/a"), dirItem("/ab"), dirItem("/ab/c")}, dropOp("/a"), []impl.Item{dirItem("/ab"), dirItem("/ab/c")})
	checkTurned(t, []impl.Item{dirItem("/a")}, dropOp("/a"), nil)
}

func TestDroppingAllFromTheDeepestOn(t *testing.T) {
	items := someItems()
	for len(items) > 0 {
		last := items[len(items)-1].Path
		checkTurned(t, items, dropOp(last), items[:len(items)-1])
		items = impl.DoModel(items, dropOp(last)).Items
	}
}

func TestMoving(t *testing.T) {
	checkTurned(t, someItems(), moveOp("/e", "/ab/e"), withItem(withoutPath(someItems(), "/e"), fileItem("/ab/e", 0, 0)))
	checkTurned(t, someItems(), moveOp("/z/y", "/aa"), withItem(withoutPath(someItems(), "/z/y"), fileItem("/aa", 4, 40)))
	checkTurned(t, someItems(), moveOp("/a/f", "/a/a"), withItem(withoutPath(someItems(), "/a/f"), fileItem("/a/a", 2, 20)))
	checkTurned(t, someItems(), moveOp("/ab", "/a/b/c/a"), withItem(withoutPath(someItems(), "/ab"), dirItem("/a/b/c/a")))
	checkTurned(t, someItems(), moveOp("/z", "/ab/z"), []impl.Item{
		dirItem("/a"), dirItem("/a/b"), dirItem("/a/b/c"), fileItem("/a/b/c/d", 1, 10), fileItem("/a/f", 2, 20),
		dirItem("/ab"), dirItem("/ab/z"), fileItem("/ab/z/x", 3, 30), fileItem("/ab/z/y", 4, 40), fileItem("/e", 0, 0),
	})
	checkTurned(t, someItems(), moveOp("/a", "/zz"), []impl.Item{
		dirItem("/ab"), fileItem("/e", 0, 0), dirItem("/z"), fileItem("/z/x", 3, 30), fileItem("/z/y", 4, 40),
		dirItem("/zz"), dirItem("/zz/b"), dirItem("/zz/b/c"), fileItem("/zz/b/c/d", 1, 10), fileItem("/zz/f", 2, 20),
	})
	checkTurned(t, someItems(), moveOp("/a/b/c", "/c"), []impl.Item{
		dirItem("/a"), dirItem("/a/b"), fileItem("/a/f", 2, 20), dirItem("/ab"),
		dirItem("/c"), fileItem("/c/d", 1, 10), fileItem("/e", 0, 0), dirItem("/z"), fileItem("/z/x", 3, 30), fileItem("/z/y", 4, 40),
	})
}

func TestMovingToItselfAndBelowItself(t *testing.T) {
	for _, item := range someItems() {
		checkNotDone(t, someItems(), moveOp(item.Path, item.Path), impl.ErrForm)
		// Below the deepest one there is no path any more.
		if strings.Count(item.Path, "/") < 4 {
			checkNotDone(t, someItems(), moveOp(item.Path, item.Path+"/x"), impl.ErrForm)
		}
	}
	// It is asked ahead of the parent of To, and of what is there.
	checkNotDone(t, someItems(), moveOp("/a", "/a/x/y"), impl.ErrForm)
	checkNotDone(t, someItems(), moveOp("/a", "/a/f/y"), impl.ErrForm)
	checkNotDone(t, someItems(), moveOp("/a", "/a/b"), impl.ErrForm)
	checkNotDone(t, someItems(), moveOp("/e", "/e/x"), impl.ErrForm)
	// But what is not there is not there, first of all.
	checkNotDone(t, someItems(), moveOp("/x", "/x"), impl.ErrNone)
	checkNotDone(t, someItems(), moveOp("/x", "/x/y"), impl.ErrNone)
}

func TestMovingToWhatOnlyBeginsWithTheSameLetters(t *testing.T) {
	items := []impl.Item{dirItem("/a"), fileItem("/a/b", 2, 5), dirItem("/aa"), fileItem("/aab", 1, 1)}
	checkTurned(t, items, moveOp("/a", "/ab"), []impl.Item{dirItem("/aa"), fileItem("/aab", 1, 1), dirItem("/ab"), fileItem("/ab/b", 2, 5)})
	checkTurned(t, items, moveOp("/a", "/aa/b"), []impl.Item{dirItem("/aa"), dirItem("/aa/b"), fileItem("/aa/b/b", 2, 5), fileItem("/aab", 1, 1)})
	checkTurned(t, items, moveOp("/a/b", "/a/bb"), []impl.Item{dirItem("/a"), fileItem("/a/bb", 2, 5), dirItem("/aa"), fileItem("/aab", 1, 1)})
	checkTurned(t, items, moveOp("/aab", "/a/aab"), []impl.Item{dirItem("/a"), fileItem("/a/aab", 1, 1), fileItem("/a/b", 2, 5), dirItem("/aa")})
	checkTurned(t, items, moveOp("/aa", "/x"), []impl.Item{dirItem("/a"), fileItem("/a/b", 2, 5), fileItem("/aab", 1, 1), dirItem("/x")})
	checkTurned(t, items, moveOp("/aab", "/aaa"), []impl.Item{dirItem("/a"), fileItem("/a/b", 2, 5), dirItem("/aa"), fileItem("/aaa", 1, 1)})
	// "/aa" is no name of "/a", nor is "/a/a" in it twice.
	deep := []impl.Item{dirItem("/a"), dirItem("/a/a"), dirItem("/a/a/a"), dirItem("/b")}
	checkTurned(t, deep, moveOp("/a/a", "/b/a"), []impl.Item{dirItem("/a"), dirItem("/b"), dirItem("/b/a"), dirItem("/b/a/a")})
	checkTurned(t, deep, moveOp("/a", "/c"), []impl.Item{dirItem("/b"), dirItem("/c"), dirItem("/c/a"), dirItem("/c/a/a")})
	checkTurned(t, deep, moveOp("/a/a/a", "/a/b"), []impl.Item{dirItem("/a"), dirItem("/a/a"), dirItem("/a/b"), dirItem("/b")})
}

func TestMovingWhatCannotBeMoved(t *testing.T) {
	codes := []struct {
		path string
		to   string
		code int64
	}{
		{"/", "/", impl.ErrForm}, {"/", "/x", impl.ErrForm}, {"/a", "/", impl.ErrForm}, {"/x", "/", impl.ErrForm},
		{"/x", "/y", impl.ErrNone}, {"/a/x", "/y", impl.ErrNone}, {"/x", "/a", impl.ErrNone}, {"/x", "/e/x", impl.ErrNone},
		{"/a", "/x/y", impl.ErrNone}, {"/e", "/x/y", impl.ErrNone}, {"/e", "/a/x/y", impl.ErrNone}, {"/a", "/e/x/y", impl.ErrNone},
		{"/a", "/e/x", impl.ErrForm}, {"/z", "/a/f/x", impl.ErrForm}, {"/e", "/z/y/x", impl.ErrForm},
		{"/a", "/z", impl.ErrTaken}, {"/e", "/a/f", impl.ErrTaken}, {"/a/f", "/a", impl.ErrTaken}, {"/a/b", "/e", impl.ErrTaken}, {"/a/b/c", "/a/b", impl.ErrTaken},
	}
	for _, c := range codes {
		checkNotDone(t, someItems(), moveOp(c.path, c.to), c.code)
	}
	checkNotDone(t, nil, moveOp("/", "/a"), impl.ErrForm)
	checkNotDone(t, nil, moveOp("/a", "/b"), impl.ErrNone)
}

// tower: so many directories, each in the one ahead of it, named by the letter.
func tower(letter string, many int) []impl.Item {
	var items []impl.Item
	path := ""
	for range many {
		path += "/" + letter
		items = append(items, dirItem(path))
	}
	return items
}

func TestMovingWhatWouldBeTooDeep(t *testing.T) {
	for below := 1; below <= 4; below++ {
		for above := 0; above <= 3; above++ {
			items := append(tower("a", above), tower("b", below)...)
			to := strings.Repeat("/a", above) + "/x"
			if above+below > 4 {
				checkNotDone(t, items, moveOp("/b", to), impl.ErrMany)
				continue
			}
			want := tower("a", above)
			for _, item := range tower("b", below) {
				want = append(want, dirItem(to+item.Path[2:]))
			}
			checkTurned(t, items, moveOp("/b", to), want)
		}
	}
	// All else is asked ahead of it.
	checkNotDone(t, someItems(), moveOp("/a", "/z/w"), impl.ErrMany)
	checkNotDone(t, someItems(), moveOp("/a", "/z/x"), impl.ErrTaken)
	checkNotDone(t, someItems(), moveOp("/a", "/z/x/y"), impl.ErrForm)
	checkNotDone(t, someItems(), moveOp("/a", "/z/w/y"), impl.ErrNone)
}

func TestMovingWhereOnlyAFileInItWouldBeTooDeep(t *testing.T) {
	items := append(someItems()[:6], dirItem("/ab/c"), dirItem("/ab/c/d"))
	checkNotDone(t, items, moveOp("/a/b/c", "/ab/c/d/e"), impl.ErrMany)
	checkTurned(t, items, moveOp("/a/b/c", "/ab/c/e"), []impl.Item{
		dirItem("/a"), dirItem("/a/b"), fileItem("/a/f", 2, 20), dirItem("/ab"), dirItem("/ab/c"), dirItem("/ab/c/d"), dirItem("/ab/c/e"), fileItem("/ab/c/e/d", 1, 10),
	})
}

func TestListing(t *testing.T) {
	names := map[string][]string{
		"/": {"a", "ab", "e", "z"}, "/a": {"b", "f"}, "/a/b": {"c"}, "/a/b/c": {"d"}, "/ab": nil, "/z": {"x", "y"},
	}
	for path, want := range names {
		checkDone(t, someItems(), listOp(path), impl.ModelResult{Items: someItems(), Names: want})
	}
	codes := map[string]int64{
		"/x": impl.ErrNone, "/a/x": impl.ErrNone, "/e/x": impl.ErrNone, "/b": impl.ErrNone,
		"/e": impl.ErrForm, "/a/f": impl.ErrForm, "/a/b/c/d": impl.ErrForm, "/z/y": impl.ErrForm,
	}
	for path, code := range codes {
		checkNotDone(t, someItems(), listOp(path), code)
	}
	checkDone(t, nil, listOp("/"), impl.ModelResult{})
	checkNotDone(t, nil, listOp("/a"), impl.ErrNone)
	checkDone(t, crowd(60), listOp("/"), impl.ModelResult{Items: crowd(60), Names: namesOfCrowd(60)})
	nested := []impl.Item{dirItem("/a"), dirItem("/a/b"), dirItem("/a/b/a"), dirItem("/a/ba"), dirItem("/ab"), dirItem("/b")}
	checkDone(t, nested, listOp("/"), impl.ModelResult{Items: nested, Names: []string{"a", "ab", "b"}})
	checkDone(t, nested, listOp("/a"), impl.ModelResult{Items: nested, Names: []string{"b", "ba"}})
}

func namesOfCrowd(many int) []string {
	var names []string
	for _, item := range crowd(many) {
		names = append(names, item.Path[1:])
	}
	return names
}

func TestSyncing(t *testing.T) {
	for _, items := range [][]impl.Item{nil, someItems(), crowd(60)} {
		checkDone(t, items, syncOp(), impl.ModelResult{Items: items})
	}
}

// turnsOf: makes, writes, cuts, moves and drops, so that each rests on those ahead of it.
func turnsOf() ([]impl.Op, []impl.Item) {
	list := []impl.Op{
		makeDir("/b"), makeFile("/b/f"), writeOp("/b/f", 0, 1, 2, 3, 4), readOp("/b/f"), writeOp("/b/f", 1, 5, 6, 7, 8), listOp("/"),
		writeOp("/b/f", 0, 9, 9, 9, 9), moveOp("/b", "/a"), syncOp(), makeFile("/b"), cutOp("/a/f", 1), dropOp("/b"), makeDir("/b"), moveOp("/a/f", "/b/g"), readOp("/b/g"),
	}
	return list, []impl.Item{dirItem("/a"), dirItem("/b"), {Path: "/b/g", Data: []int64{9, 9, 9, 9}}}
}

func TestRunningOps(t *testing.T) {
	list, want := turnsOf()
	checkItemsResult(t, "from nothing", impl.RunModel(nil, list), impl.ItemsResult{Items: want})
	checkItemsResult(t, "from what there is", impl.RunModel([]impl.Item{fileItem("/z", 3, 1)}, list), impl.ItemsResult{Items: append(want, fileItem("/z", 3, 1))})
	for many := range list {
		checkItemsResult(t, "some of them", impl.RunModel(nil, list[:many]), runByRule(nil, list[:many]))
	}
	for _, none := range [][]impl.Op{nil, {}} {
		checkItemsResult(t, "no ops", impl.RunModel(someItems(), none), impl.ItemsResult{Items: someItems()})
		checkItemsResult(t, "no ops of nothing", impl.RunModel(nil, none), impl.ItemsResult{})
	}
	checkItemsResult(t, "a read among them", impl.RunModel(someItems(), []impl.Op{readOp("/z/y"), listOp("/a"), syncOp()}), impl.ItemsResult{Items: someItems()})
}

func TestHowManyOpsMayBeRun(t *testing.T) {
	for _, o := range []impl.Op{syncOp(), readOp("/z/y"), writeOp("/e", 0, 1, 2, 3, 4)} {
		checkItemsResult(t, "as many as may be", impl.RunModel(someItems(), slices.Repeat([]impl.Op{o}, 500)), runByRule(someItems(), []impl.Op{o}))
		checkItemsResult(t, "one more", impl.RunModel(someItems(), slices.Repeat([]impl.Op{o}, 501)), impl.ItemsResult{Code: impl.ErrMany})
	}
	checkItemsResult(t, "one more, all with a fault", impl.RunModel(nil, make([]impl.Op, 501)), impl.ItemsResult{Code: impl.ErrMany})
	checkItemsResult(t, "as many with a fault", impl.RunModel(nil, make([]impl.Op, 500)), impl.ItemsResult{Code: impl.ErrForm})
	checkItemsResult(t, "very many", impl.RunModel(nil, make([]impl.Op, 100000)), impl.ItemsResult{Code: impl.ErrMany})
	for _, wrong := range faultyItems() {
		for _, many := range []int{0, 1, 500, 501} {
			checkItemsResult(t, "items with a fault", impl.RunModel([]impl.Item{wrong.item}, make([]impl.Op, many)), impl.ItemsResult{Code: wrong.code})
		}
	}
}

func TestTheFirstOpThatHasACodeEndsTheRun(t *testing.T) {
	list, _ := turnsOf()
	wrongs := map[int64]impl.Op{
		impl.ErrTaken: makeDir("/"), impl.ErrNone: readOp("/x"), impl.ErrForm: {Kind: 9}, impl.ErrText: dropOp("x"), impl.ErrRange: cutOp("/", 5), impl.ErrMany: listOp("/a/b/c/d/e"),
	}
	for code, wrong := range wrongs {
		for place := range len(list) + 1 {
			for _, other := range wrongs {
				ops := append(slices.Insert(slices.Clone(list), place, wrong), other)
				checkItemsResult(t, "a wrong one among them", impl.RunModel(nil, ops), impl.ItemsResult{Code: code})
			}
		}
	}
	checkItemsResult(t, "what was made twice", impl.RunModel(nil, []impl.Op{makeDir("/a"), makeDir("/a")}), impl.ItemsResult{Code: impl.ErrTaken})
	checkItemsResult(t, "what has something in it", impl.RunModel(nil, []impl.Op{makeDir("/a"), makeDir("/a/b"), dropOp("/a")}), impl.ItemsResult{Code: impl.ErrState})
	var many []impl.Op
	for i := range 61 {
		many = append(many, makeFile(fmt.Sprintf("/%c%c", 'a'+i/26, 'a'+i%26)))
	}
	checkItemsResult(t, "as many as may be", impl.RunModel(nil, many[:60]), impl.ItemsResult{Items: crowd(60)})
	checkItemsResult(t, "one more", impl.RunModel(nil, many), impl.ItemsResult{Code: impl.ErrFull})
}

func TestWhateverIsWantedWhatThereIsStaysRight(t *testing.T) {
	r := rand.New(rand.NewSource(34))
	asks := []int64{impl.OpRead, impl.OpList, impl.OpSync}
	turns := 0
	for range 400 {
		var items []impl.Item
		if r.Intn(3) == 0 {
			items = anyCrowd(r)
		}
		// The program's own answers are asked on, so that a wrong one would be seen by what follows.
		for range 60 {
			o := anyOp(r, items)
			if r.Intn(2) == 0 {
				o = impl.Op{Kind: impl.OpMake, Path: pathNear(r, items), Dir: r.Intn(3) > 0}
			}
			done := impl.DoModel(items, o)
			if done.Code != impl.OK {
				continue
			}
			if impl.ItemsFault(done.Items) != 0 || itemsFaultByRule(done.Items) != 0 {
				t.Fatalf("of %v by %+v there is %v", items, o, done.Items)
			}
			if slices.Contains(asks, o.Kind) && (!impl.SameItems(done.Items, items) || !sameItemsByRule(done.Items, items)) {
				t.Fatalf("what only asks turned %v by %+v to %v", items, o, done.Items)
			}
			if !slices.Contains(asks, o.Kind) {
				turns++
			}
			items = done.Items
		}
	}
	if turns < 1000 {
		t.Errorf("only %d ops turned something", turns)
	}
}

func TestTheExampleOfDoModel(t *testing.T) {
	checkNotDone(t, nil, makeFile("/a/b"), impl.ErrNone)
	checkNotDone(t, nil, makeDir("/a/b"), impl.ErrNone)
}
