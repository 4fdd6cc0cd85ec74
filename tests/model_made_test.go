package tests

import (
	"math/rand"
	"slices"

	"loop.example/g00691/impl"
)

// Items and ops to ask: made by hand, or by chance from a seed.

func dirItem(path string) impl.Item {
	return impl.Item{Path: path, Dir: true}
}

// pieceNumbers are others for each piece, so that none is taken for another one.
func pieceNumbers(piece int64) []int64 {
	return []int64{piece, 9999 - piece, 0, 9999}
}

// fileItem: the numbers of its pieces begin by first, and are one more from piece to piece.
func fileItem(path string, pieces int64, first int64) impl.Item {
	item := impl.Item{Path: path}
	for piece := range pieces {
		item.Data = append(item.Data, pieceNumbers(first+piece)...)
	}
	return item
}

// someItems: directories up to the greatest depth, files of each size, an empty directory, and a name that begins with another one.
func someItems() []impl.Item {
	return []impl.Item{
		dirItem("/a"),
		dirItem("/a/b"),
		dirItem("/a/b/c"),
		fileItem("/a/b/c/d", 1, 10),
		fileItem("/a/f", 2, 20),
		dirItem("/ab"),
		fileItem("/e", 0, 0),
		dirItem("/z"),
		fileItem("/z/x", 3, 30),
		fileItem("/z/y", 4, 40),
	}
}

// crowd: so many files in the root, rising.
func crowd(many int) []impl.Item {
	var items []impl.Item
	for i := range many {
		items = append(items, impl.Item{Path: "/" + string([]byte{'a' + byte(i/26), 'a' + byte(i%26)})})
	}
	return items
}

// withItem: the item at its Path's place, instead of the one that is there.
func withItem(items []impl.Item, item impl.Item) []impl.Item {
	return sortedItems(append(withoutPath(items, item.Path), item))
}

func withoutPath(items []impl.Item, path string) []impl.Item {
	return slices.DeleteFunc(copyOfItems(items), func(i impl.Item) bool { return i.Path == path })
}

func sortedItems(items []impl.Item) []impl.Item {
	slices.SortFunc(items, func(a impl.Item, b impl.Item) int {
		return slices.Compare([]byte(a.Path), []byte(b.Path))
	})
	return items
}

func copyOfItems(items []impl.Item) []impl.Item {
	items = slices.Clone(items)
	for i := range items {
		items[i].Data = slices.Clone(items[i].Data)
	}
	return items
}

func makeDir(path string) impl.Op {
	return impl.Op{Kind: impl.OpMake, Path: path, Dir: true}
}

func makeFile(path string) impl.Op {
	return impl.Op{Kind: impl.OpMake, Path: path}
}

func writeOp(path string, index int64, list ...int64) impl.Op {
	return impl.Op{Kind: impl.OpWrite, Path: path, Index: index, Numbers: list}
}

func cutOp(path string, index int64) impl.Op {
	return impl.Op{Kind: impl.OpCut, Path: path, Index: index}
}

func dropOp(path string) impl.Op {
	return impl.Op{Kind: impl.OpDrop, Path: path}
}

func moveOp(path string, to string) impl.Op {
	return impl.Op{Kind: impl.OpMove, Path: path, To: to}
}

func readOp(path string) impl.Op {
	return impl.Op{Kind: impl.OpRead, Path: path}
}

func listOp(path string) impl.Op {
	return impl.Op{Kind: impl.OpList, Path: path}
}

func syncOp() impl.Op {
	return impl.Op{Kind: impl.OpSync}
}

// anyPath has few names, so that many paths meet, and some that only begin alike; now and then it is none.
func anyPath(r *rand.Rand) string {
	if r.Intn(40) == 0 {
		return []string{"", "a", "/", "//", "/a/", "/A", "/abcdefg", "/a/b/a/b/a"}[r.Intn(8)]
	}
	path := ""
	for range 1 + r.Intn(4) {
		path += "/" + []string{"a", "b", "ab", "aa"}[r.Intn(4)]
	}
	return path
}

// pathNear is one of the items' paths, one below it, or any.
func pathNear(r *rand.Rand, items []impl.Item) string {
	if len(items) == 0 || r.Intn(4) == 0 {
		return anyPath(r)
	}
	path := items[r.Intn(len(items))].Path
	if r.Intn(3) == 0 {
		path += "/" + []string{"a", "b", "ab", "aa"}[r.Intn(4)]
	}
	return path
}

// fileNear is the path of one of the files, if there are any.
func fileNear(r *rand.Rand, items []impl.Item) string {
	files := slices.DeleteFunc(slices.Clone(items), func(i impl.Item) bool { return i.Dir })
	return pathNear(r, files)
}

// anyOp wants something of these items; now and then it has a fault.
func anyOp(r *rand.Rand, items []impl.Item) impl.Op {
	o := impl.Op{Kind: 1 + r.Int63n(8)}
	switch o.Kind {
	case impl.OpWrite, impl.OpCut, impl.OpRead:
		o.Path = fileNear(r, items)
	case impl.OpMake, impl.OpDrop, impl.OpMove, impl.OpList:
		o.Path = pathNear(r, items)
	}
	switch o.Kind {
	case impl.OpMake:
		o.Dir = r.Intn(3) > 0
	case impl.OpWrite:
		o.Index = min(r.Int63n(4), r.Int63n(4))
		o.Numbers = anyPiece(r)
	case impl.OpCut:
		o.Index = min(r.Int63n(5), r.Int63n(5))
	case impl.OpMove:
		o.To = pathNear(r, items)
	}
	if r.Intn(30) == 0 {
		o = spoiltOp(r, o)
	}
	return o
}

// spoiltOp: another value in one field; that may be right, too.
func spoiltOp(r *rand.Rand, o impl.Op) impl.Op {
	switch r.Intn(6) {
	case 0:
		o.Kind = []int64{-1, 0, 1, 2, 3, 4, 5, 6, 7, 8, 9}[r.Intn(11)]
	case 1:
		o.Path = anyPath(r)
	case 2:
		o.To = anyPath(r)
	case 3:
		o.Dir = !o.Dir
	case 4:
		o.Index = []int64{-1, 0, 3, 4, 5}[r.Intn(5)]
	case 5:
		o.Numbers = [][]int64{nil, {}, {1, 2, 3}, {1, 2, 3, -1}, {1, 2, 3, 10000}, {1, 2, 3, 4, 5}}[r.Intn(6)]
	}
	return o
}

// anyItems have no fault: they are what some ops leave, by the plain writing of the chapter.
func anyItems(r *rand.Rand) []impl.Item {
	var items []impl.Item
	for range r.Intn(60) {
		o := anyOp(r, items)
		// What is not made more often than dropped would never grow.
		if r.Intn(2) == 0 {
			o = impl.Op{Kind: impl.OpMake, Path: pathNear(r, items), Dir: r.Intn(3) > 0}
		}
		if done := doByRule(items, o); done.Code == 0 {
			items = done.Items
		}
	}
	return items
}

// anyCrowd has nearly as many items as there may be.
func anyCrowd(r *rand.Rand) []impl.Item {
	items := anyItems(r)
	for len(items) < 58+r.Intn(3) {
		o := impl.Op{Kind: impl.OpMake, Path: "/" + anyName(r), Dir: r.Intn(2) == 0}
		if done := doByRule(items, o); done.Code == 0 {
			items = done.Items
		}
	}
	return items
}

// spoiltItems: another value in some places of items without a fault; that may be right, too.
func spoiltItems(r *rand.Rand, items []impl.Item) []impl.Item {
	items = copyOfItems(items)
	for range 1 + r.Intn(2) {
		if len(items) == 0 {
			return append(items, impl.Item{Path: anyPath(r), Dir: r.Intn(2) == 0})
		}
		at, other := r.Intn(len(items)), r.Intn(len(items))
		switch r.Intn(7) {
		case 0:
			items[at].Path = []string{anyPath(r), items[other].Path + items[at].Path}[r.Intn(2)]
		case 1:
			items[at].Dir = !items[at].Dir
		case 2:
			items[at].Data = slices.Repeat([]int64{1, 9999, 0}, r.Intn(8))
		case 3:
			items[at].Data = []int64{0, 1, []int64{-1, 0, 9999, 10000}[r.Intn(4)], 2}
		case 4:
			items[at], items[other] = items[other], items[at]
		case 5:
			items = slices.Delete(items, at, at+1)
		case 6:
			items = slices.Insert(items, at, copyOfItems(items[other:other+1])...)
		}
	}
	return items
}
