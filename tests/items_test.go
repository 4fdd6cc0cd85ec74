package tests

import (
	"math"
	"slices"
	"testing"

	"loop.example/g00691/impl"
)

// faultyItem has a fault by itself, whatever the others are.
type faultyItem struct {
	item impl.Item
	code int64
}

func faultyItems() []faultyItem {
	piece := pieceNumbers(1)
	list := []faultyItem{
		{dirItem("/"), impl.ErrForm},
		{fileItem("/", 0, 0), impl.ErrForm},
		{fileItem("/", 2, 1), impl.ErrForm},
		{impl.Item{Path: "/m", Dir: true, Data: piece}, impl.ErrForm},
		{impl.Item{Path: "/m", Dir: true, Data: []int64{0}}, impl.ErrForm},
		{dirItem("/a/b/c/d/e"), impl.ErrMany},
		{fileItem("/a/b/c/d/e", 1, 1), impl.ErrMany},
		{dirItem("/m/m/m/m/m/m"), impl.ErrMany},
	}
	for many := range 40 {
		if many%4 != 0 || many > 16 {
			list = append(list, faultyItem{impl.Item{Path: "/m", Data: make([]int64, many)}, impl.ErrForm})
		}
	}
	for _, path := range []string{"", "m", "//", "/m/", "m/", "/m//m", "/M", "/m m", "/mmmmmmm", " /m", "/m\n", "/m\x00", "/\xff", "/ä"} {
		list = append(list, faultyItem{dirItem(path), impl.ErrText}, faultyItem{fileItem(path, 1, 1), impl.ErrText})
	}
	for _, n := range []int64{math.MinInt64, -1, 10000, math.MaxInt64} {
		for place := range 16 {
			whole := fileItem("/m", 4, 1)
			whole.Data[place] = n
			list = append(list, faultyItem{whole, impl.ErrRange})
		}
	}
	return list
}

func TestItemsWithoutAFault(t *testing.T) {
	checkItemsFault(t, "some items", someItems(), 0)
	checkItemsFault(t, "nil", nil, 0)
	checkItemsFault(t, "no items", []impl.Item{}, 0)
	for many := range 61 {
		checkItemsFault(t, "a crowd", crowd(many), 0)
	}
	for pieces := range int64(5) {
		checkItemsFault(t, "whole pieces", []impl.Item{fileItem("/m", pieces, 7)}, 0)
	}
	checkItemsFault(t, "the least and the greatest number", []impl.Item{{Path: "/m", Data: []int64{0, 9999, 9999, 0}}}, 0)
	checkItemsFault(t, "an empty list of Data", []impl.Item{{Path: "/m", Dir: true, Data: []int64{}}}, 0)
	checkItemsFault(t, "the longest names", []impl.Item{dirItem("/zzzzzz"), dirItem("/zzzzzz/zzzzzz"), dirItem("/zzzzzz/zzzzzz/zzzzzz"), dirItem("/zzzzzz/zzzzzz/zzzzzz/zzzzzz")}, 0)
}

func TestMoreItemsThanThereMayBe(t *testing.T) {
	for _, many := range []int{61, 62, 600} {
		checkItemsFault(t, "a crowd", crowd(many), impl.ErrMany)
		checkItemsFault(t, "as many without a Path", make([]impl.Item, many), impl.ErrMany)
		checkItemsFault(t, "as many of one Path", slices.Repeat([]impl.Item{dirItem("/a")}, many), impl.ErrMany)
		checkItemsFault(t, "as many without a parent", slices.Repeat([]impl.Item{dirItem("/a/b")}, many), impl.ErrMany)
	}
}

func TestWhatIsWrongInAnItemByItself(t *testing.T) {
	for _, wrong := range faultyItems() {
		checkItemsFault(t, "alone", []impl.Item{wrong.item}, wrong.code)
		for place := range len(someItems()) + 1 {
			checkItemsFault(t, "among others", slices.Insert(someItems(), place, wrong.item), wrong.code)
		}
	}
}

func TestOfTwoFaultyItemsTheFirstOneTellsTheCode(t *testing.T) {
	for _, first := range faultyItems() {
		for _, second := range faultyItems() {
			checkItemsFault(t, "two faults", []impl.Item{dirItem("/a"), first.item, dirItem("/b"), second.item}, first.code)
		}
	}
}

func TestInOneItemThePathIsAskedAheadOfItsPiecesAndThoseAheadOfTheirNumbers(t *testing.T) {
	bad := []int64{-1, -1, -1, -1}
	for _, data := range [][]int64{bad, bad[:3], make([]int64, 20)} {
		for _, isDir := range []bool{false, true} {
			checkItemsFault(t, "no path", []impl.Item{{Path: "x", Dir: isDir, Data: data}}, impl.ErrText)
			checkItemsFault(t, "a path too deep", []impl.Item{{Path: "/a/b/c/d/e", Dir: isDir, Data: data}}, impl.ErrMany)
			checkItemsFault(t, "the root", []impl.Item{{Path: "/", Dir: isDir, Data: data}}, impl.ErrForm)
		}
	}
	checkItemsFault(t, "a directory with wrong numbers", []impl.Item{{Path: "/a", Dir: true, Data: bad}}, impl.ErrForm)
	checkItemsFault(t, "no whole piece of wrong numbers", []impl.Item{{Path: "/a", Data: bad[:3]}}, impl.ErrForm)
	checkItemsFault(t, "too many wrong numbers", []impl.Item{{Path: "/a", Data: slices.Repeat(bad, 5)}}, impl.ErrForm)
	checkItemsFault(t, "wrong numbers", []impl.Item{{Path: "/a", Data: slices.Repeat(bad, 4)}}, impl.ErrRange)
}

// misplacedItems have a fault only beside each other.
func misplacedItems() map[string][]impl.Item {
	return map[string][]impl.Item{
		"a Path that does not rise": {dirItem("/b"), dirItem("/a")},
		"two the same Paths":        {dirItem("/a"), dirItem("/a")},
		"a parent that is not there": {
			dirItem("/b/c"),
		},
		"a parent that is a file": {fileItem("/b", 1, 1), dirItem("/b/c")},
	}
}

func TestWhatIsWrongInAnItemIsAskedAheadOfTheirOrderAndParents(t *testing.T) {
	for what, items := range misplacedItems() {
		for _, wrong := range faultyItems() {
			for place := range len(items) + 1 {
				checkItemsFault(t, what, slices.Insert(slices.Clone(items), place, wrong.item), wrong.code)
			}
		}
	}
}

func TestPathsThatDoNotRise(t *testing.T) {
	rising := []string{"/a", "/a/a", "/a/b", "/aa", "/ab", "/b", "/ba", "/z", "/za", "/zz"}
	for i, first := range rising {
		for j, second := range rising {
			code := int64(impl.OK)
			if j <= i {
				code = impl.ErrForm
			}
			items := []impl.Item{dirItem("/a"), dirItem(first), dirItem(second)}
			if first == "/a" {
				items = items[1:]
			}
			checkItemsFault(t, first+" and "+second, items, code)
		}
	}
	checkItemsFault(t, "by bytes", []impl.Item{dirItem("/a"), dirItem("/a/b"), dirItem("/ab")}, 0)
	checkItemsFault(t, "not by bytes", []impl.Item{dirItem("/a"), dirItem("/ab"), dirItem("/a/b")}, impl.ErrForm)
	checkItemsFault(t, "a shorter one behind", []impl.Item{dirItem("/ab"), dirItem("/a")}, impl.ErrForm)
	checkItemsFault(t, "a parent behind what is in it", []impl.Item{dirItem("/a/b"), dirItem("/a")}, impl.ErrForm)
	checkItemsFault(t, "the same Paths", []impl.Item{dirItem("/a"), fileItem("/a", 0, 0)}, impl.ErrForm)
	checkItemsFault(t, "the last one does not rise", append(crowd(59), dirItem("/cf")), impl.ErrForm)
	checkItemsFault(t, "the same Paths at the end", append(crowd(59), crowd(59)[58]), impl.ErrForm)
}

func TestParentsThatAreNotThere(t *testing.T) {
	checkItemsFault(t, "in nothing", []impl.Item{dirItem("/a/b")}, impl.ErrNone)
	checkItemsFault(t, "in the root", []impl.Item{dirItem("/a")}, 0)
	checkItemsFault(t, "one that begins alike is no parent", []impl.Item{dirItem("/a"), dirItem("/ab/c")}, impl.ErrNone)
	checkItemsFault(t, "nor is a shorter one", []impl.Item{dirItem("/a"), dirItem("/ab"), dirItem("/abc/d")}, impl.ErrNone)
	checkItemsFault(t, "nor is the parent's parent", []impl.Item{dirItem("/a"), dirItem("/a/b/c")}, impl.ErrNone)
	checkItemsFault(t, "nor is one of the same last name", []impl.Item{dirItem("/a"), dirItem("/a/b"), dirItem("/b/c")}, impl.ErrNone)
	for _, missing := range []string{"/a", "/a/b", "/a/b/c", "/z"} {
		checkItemsFault(t, "some items without a parent", withoutPath(someItems(), missing), impl.ErrNone)
		checkItemsFault(t, "some items with a file as a parent", withItem(someItems(), fileItem(missing, 0, 0)), impl.ErrState)
		checkItemsFault(t, "some items with a file as a parent", withItem(someItems(), fileItem(missing, 2, 5)), impl.ErrState)
	}
}

func TestOrderAndParentsAreAskedItemByItem(t *testing.T) {
	checkItemsFault(t, "no parent ahead of the order", []impl.Item{dirItem("/b/c"), dirItem("/a")}, impl.ErrNone)
	checkItemsFault(t, "the order ahead of no parent", []impl.Item{dirItem("/b"), dirItem("/a"), dirItem("/c/d")}, impl.ErrForm)
	checkItemsFault(t, "both in one item", []impl.Item{dirItem("/b"), dirItem("/a/x")}, impl.ErrForm)
	checkItemsFault(t, "a file as parent ahead of the order", []impl.Item{fileItem("/a", 0, 0), dirItem("/a/b"), dirItem("/a")}, impl.ErrState)
	checkItemsFault(t, "the order ahead of a file as parent", []impl.Item{dirItem("/b"), fileItem("/a", 0, 0), dirItem("/a/b")}, impl.ErrForm)
	checkItemsFault(t, "both in one item", []impl.Item{fileItem("/a", 0, 0), dirItem("/b"), dirItem("/a/b")}, impl.ErrForm)
	checkItemsFault(t, "no parent ahead of a file as parent", []impl.Item{dirItem("/a/b"), fileItem("/c", 0, 0), dirItem("/c/d")}, impl.ErrNone)
	checkItemsFault(t, "a file as parent ahead of no parent", []impl.Item{fileItem("/a", 0, 0), dirItem("/a/b"), dirItem("/c/d")}, impl.ErrState)
}

func TestAParentThatStandsBehindIsThere(t *testing.T) {
	checkItemsFault(t, "a directory", []impl.Item{dirItem("/b/c"), dirItem("/b")}, impl.ErrForm)
	checkItemsFault(t, "a file", []impl.Item{dirItem("/b/c"), fileItem("/b", 0, 0)}, impl.ErrState)
	checkItemsFault(t, "a directory, and a file", []impl.Item{dirItem("/b/c"), dirItem("/b"), fileItem("/b", 0, 0)}, impl.ErrForm)
	checkItemsFault(t, "a file, and a directory", []impl.Item{dirItem("/b/c"), fileItem("/b", 0, 0), dirItem("/b")}, impl.ErrState)
}

func checkSameItems(t *testing.T, what string, a []impl.Item, b []impl.Item, want bool) {
	t.Helper()
	if impl.SameItems(a, b) != want || impl.SameItems(b, a) != want {
		t.Errorf("%s: SameItems of %v and %v is not %v", what, a, b, want)
	}
}

func TestSameItems(t *testing.T) {
	lists := [][]impl.Item{nil, someItems(), crowd(60), crowd(61), {dirItem("x")}, {{}}, {{}, {}}}
	for _, wrong := range faultyItems() {
		lists = append(lists, []impl.Item{wrong.item})
	}
	for _, items := range lists {
		checkSameItems(t, "a copy", items, copyOfItems(items), true)
		checkSameItems(t, "itself", items, items, true)
		checkSameItems(t, "one more", items, append(copyOfItems(items), impl.Item{}), false)
		for at := range items {
			for what, turn := range itemTurns() {
				other := copyOfItems(items)
				turn(&other[at])
				checkSameItems(t, what, items, other, false)
			}
			checkSameItems(t, "one less", items, slices.Delete(copyOfItems(items), at, at+1), false)
		}
	}
	other := someItems()
	other[0], other[1] = other[1], other[0]
	checkSameItems(t, "another order", someItems(), other, false)
	checkSameItems(t, "another order at the end", crowd(61), append(crowd(59), crowd(61)[60], crowd(61)[59]), false)
}

func itemTurns() map[string]func(*impl.Item) {
	return map[string]func(*impl.Item){
		"another Path":   func(i *impl.Item) { i.Path += "a" },
		"Dir turned":     func(i *impl.Item) { i.Dir = !i.Dir },
		"a number more":  func(i *impl.Item) { i.Data = append(i.Data, 0) },
		"another number": func(i *impl.Item) { i.Data = append([]int64{-7}, i.Data[min(1, len(i.Data)):]...) },
	}
}

func TestNilAndEmptyListsOfItemsAndOfDataAreTheSame(t *testing.T) {
	checkSameItems(t, "no items", nil, []impl.Item{}, true)
	checkSameItems(t, "no items", nil, someItems()[:0], true)
	checkSameItems(t, "no Data", []impl.Item{{Path: "/a", Data: nil}}, []impl.Item{{Path: "/a", Data: []int64{}}}, true)
	checkSameItems(t, "an empty item is one", nil, []impl.Item{{}}, false)
	checkSameItems(t, "a number is one", []impl.Item{{Path: "/a"}}, []impl.Item{{Path: "/a", Data: []int64{0}}}, false)
}
