package tests

import (
	"math/rand"
	"regexp"
	"slices"
	"strings"
	"testing"

	"loop.example/g00691/impl"
)

// What there is once more, by searching lists of items as the document tells it, to hold the program's answers against.

var pathForm = regexp.MustCompile(`^(/|(/[a-z]{1,6})+)$`)

func pathCodeByRule(path string) int64 {
	if !pathForm.MatchString(path) {
		return impl.ErrText
	}
	if strings.Count(path, "/") > 4 {
		return impl.ErrMany
	}
	return 0
}

func parentByRule(path string) string {
	names := strings.Split(path, "/")
	parent := strings.Join(names[:len(names)-1], "/")
	if parent == "" {
		return "/"
	}
	return parent
}

func itemByRule(items []impl.Item, path string) (impl.Item, bool) {
	for _, item := range items {
		if item.Path == path {
			return item, true
		}
	}
	return impl.Item{}, false
}

// parentCodeByRule: 0, if the parent is the root or a directory that is there.
func parentCodeByRule(items []impl.Item, path string, ofFile int64) int64 {
	parent, is := itemByRule(items, parentByRule(path))
	if parentByRule(path) == "/" || parent.Dir {
		return 0
	}
	if !is {
		return impl.ErrNone
	}
	return ofFile
}

func itemsFaultByRule(items []impl.Item) int64 {
	if len(items) > 60 {
		return impl.ErrMany
	}
	for _, item := range items {
		if code := pathCodeByRule(item.Path); code != 0 {
			return code
		}
		sizes := []int{0, 4, 8, 12, 16}
		if item.Dir {
			sizes = []int{0}
		}
		if item.Path == "/" || !slices.Contains(sizes, len(item.Data)) {
			return impl.ErrForm
		}
		if slices.ContainsFunc(item.Data, func(n int64) bool { return n < 0 || n > 9999 }) {
			return impl.ErrRange
		}
	}
	for i, item := range items {
		if i > 0 && slices.Compare([]byte(items[i-1].Path), []byte(item.Path)) >= 0 {
			return impl.ErrForm
		}
		if code := parentCodeByRule(items, item.Path, impl.ErrState); code != 0 {
			return code
		}
	}
	return 0
}

func opFaultByRule(o impl.Op) int64 {
	has := ""
	for _, field := range []struct {
		letter string
		is     bool
	}{{"p", o.Path != ""}, {"t", o.To != ""}, {"d", o.Dir}, {"i", o.Index != 0}, {"n", len(o.Numbers) > 0}} {
		if field.is {
			has += field.letter
		}
	}
	needs := map[int64]string{1: "pd", 2: "pin", 3: "pi", 4: "p", 5: "pt", 6: "p", 7: "p", 8: ""}
	needed, is := needs[o.Kind]
	if !is || strings.Trim(has, needed) != "" {
		return impl.ErrForm
	}
	if code := pathCodeByRule(o.Path); o.Kind != 8 && code != 0 {
		return code
	}
	if code := pathCodeByRule(o.To); o.Kind == 5 && code != 0 {
		return code
	}
	if o.Kind == 2 && (o.Index < 0 || o.Index > 3) || o.Kind == 3 && (o.Index < 0 || o.Index > 4) {
		return impl.ErrRange
	}
	if o.Kind == 2 {
		return numbersFaultByRule(o.Numbers)
	}
	return 0
}

func makeByRule(items []impl.Item, o impl.Op) impl.ModelResult {
	if o.Path == "/" {
		return impl.ModelResult{Code: impl.ErrTaken}
	}
	if code := parentCodeByRule(items, o.Path, impl.ErrForm); code != 0 {
		return impl.ModelResult{Code: code}
	}
	if _, is := itemByRule(items, o.Path); is {
		return impl.ModelResult{Code: impl.ErrTaken}
	}
	if len(items) == 60 {
		return impl.ModelResult{Code: impl.ErrFull}
	}
	return impl.ModelResult{Items: withItem(items, impl.Item{Path: o.Path, Dir: o.Dir})}
}

// fileByRule: what writes, cuts and reads.
func fileByRule(items []impl.Item, o impl.Op) impl.ModelResult {
	it, is := itemByRule(items, o.Path)
	switch {
	case o.Path == "/":
		return impl.ModelResult{Code: impl.ErrForm}
	case !is:
		return impl.ModelResult{Code: impl.ErrNone}
	case it.Dir:
		return impl.ModelResult{Code: impl.ErrForm}
	case o.Kind == 6:
		return impl.ModelResult{Items: copyOfItems(items), Numbers: slices.Clone(it.Data)}
	case o.Index > int64(len(it.Data)/4):
		return impl.ModelResult{Code: impl.ErrRange}
	}
	data := slices.Clone(it.Data)
	if o.Kind == 3 {
		data = data[:4*o.Index]
	} else {
		if o.Index == int64(len(data)/4) {
			data = append(data, 0, 0, 0, 0)
		}
		for i, n := range o.Numbers {
			data[4*o.Index+int64(i)] = n
		}
	}
	return impl.ModelResult{Items: withItem(items, impl.Item{Path: o.Path, Data: data})}
}

func dropByRule(items []impl.Item, o impl.Op) impl.ModelResult {
	if o.Path == "/" {
		return impl.ModelResult{Code: impl.ErrForm}
	}
	if _, is := itemByRule(items, o.Path); !is {
		return impl.ModelResult{Code: impl.ErrNone}
	}
	for _, item := range items {
		if parentByRule(item.Path) == o.Path {
			return impl.ModelResult{Code: impl.ErrState}
		}
	}
	return impl.ModelResult{Items: withoutPath(items, o.Path)}
}

func moveByRule(items []impl.Item, o impl.Op) impl.ModelResult {
	if o.Path == "/" || o.To == "/" {
		return impl.ModelResult{Code: impl.ErrForm}
	}
	if _, is := itemByRule(items, o.Path); !is {
		return impl.ModelResult{Code: impl.ErrNone}
	}
	if strings.HasPrefix(o.To+"/", o.Path+"/") {
		return impl.ModelResult{Code: impl.ErrForm}
	}
	if code := parentCodeByRule(items, o.To, impl.ErrForm); code != 0 {
		return impl.ModelResult{Code: code}
	}
	if _, is := itemByRule(items, o.To); is {
		return impl.ModelResult{Code: impl.ErrTaken}
	}
	moved := copyOfItems(items)
	for i, item := range moved {
		if rest, is := strings.CutPrefix(item.Path+"/", o.Path+"/"); is {
			moved[i].Path = strings.TrimSuffix(o.To+"/"+rest, "/")
		}
		if strings.Count(moved[i].Path, "/") > 4 {
			return impl.ModelResult{Code: impl.ErrMany}
		}
	}
	return impl.ModelResult{Items: sortedItems(moved)}
}

func listByRule(items []impl.Item, o impl.Op) impl.ModelResult {
	it, is := itemByRule(items, o.Path)
	if o.Path != "/" && !is {
		return impl.ModelResult{Code: impl.ErrNone}
	}
	if o.Path != "/" && !it.Dir {
		return impl.ModelResult{Code: impl.ErrForm}
	}
	var names []string
	for _, item := range items {
		if parentByRule(item.Path) == o.Path {
			all := strings.Split(item.Path, "/")
			names = append(names, all[len(all)-1])
		}
	}
	return impl.ModelResult{Items: copyOfItems(items), Names: names}
}

func doByRule(items []impl.Item, o impl.Op) impl.ModelResult {
	if code := itemsFaultByRule(items); code != 0 {
		return impl.ModelResult{Code: code}
	}
	if code := opFaultByRule(o); code != 0 {
		return impl.ModelResult{Code: code}
	}
	switch o.Kind {
	case 1:
		return makeByRule(items, o)
	case 2, 3, 6:
		return fileByRule(items, o)
	case 4:
		return dropByRule(items, o)
	case 5:
		return moveByRule(items, o)
	case 7:
		return listByRule(items, o)
	}
	return impl.ModelResult{Items: copyOfItems(items)}
}

func runByRule(items []impl.Item, list []impl.Op) impl.ItemsResult {
	if code := itemsFaultByRule(items); code != 0 {
		return impl.ItemsResult{Code: code}
	}
	if len(list) > 500 {
		return impl.ItemsResult{Code: impl.ErrMany}
	}
	for _, o := range list {
		done := doByRule(items, o)
		if done.Code != 0 {
			return impl.ItemsResult{Code: done.Code}
		}
		items = done.Items
	}
	return impl.ItemsResult{Items: items}
}

func treeByRule(words []int64) impl.ItemsResult {
	live := liveByRule(words)
	if live.Code != 0 {
		return impl.ItemsResult{Code: live.Code}
	}
	return impl.ItemsResult{Items: itemsByRule(live)}
}

// itemsByRule: what there is, told by nodes and pieces.
func itemsByRule(live impl.LiveResult) []impl.Item {
	var items []impl.Item
	for _, v := range live.Nodes {
		n := v.Block.Node
		item := impl.Item{Path: "/" + n.Name, Dir: n.Dir}
		for up, is := nodeInByRule(live.Nodes, n.Parent); is; up, is = nodeInByRule(live.Nodes, up.Parent) {
			item.Path = "/" + up.Name + item.Path
		}
		for index := range n.Size {
			for _, d := range live.Datas {
				if d.Block.Head.Uid == n.Uid && d.Block.Head.Index == index {
					item.Data = append(item.Data, d.Block.Numbers...)
				}
			}
		}
		items = append(items, item)
	}
	return sortedItems(items)
}

func sameItemsByRule(a []impl.Item, b []impl.Item) bool {
	if len(a) != len(b) {
		return false
	}
	for i := range a {
		if a[i].Path != b[i].Path || a[i].Dir != b[i].Dir || !slices.Equal(a[i].Data, b[i].Data) {
			return false
		}
	}
	return true
}

func checkItemsFault(t *testing.T, what string, items []impl.Item, want int64) {
	t.Helper()
	if got := impl.ItemsFault(items); got != want {
		t.Fatalf("%s: ItemsFault = %d, want %d: %.300v", what, got, want, items)
	}
}

func checkOpFault(t *testing.T, o impl.Op, want int64) {
	t.Helper()
	if got := impl.OpFault(o); got != want {
		t.Fatalf("OpFault(%.300v) = %d, want %d", o, got, want)
	}
	isMutation := want == 0 && o.Kind >= 1 && o.Kind <= 5
	if got := impl.IsMutation(o); got != isMutation {
		t.Fatalf("IsMutation(%.300v) = %v", o, got)
	}
}

func checkDone(t *testing.T, items []impl.Item, o impl.Op, want impl.ModelResult) {
	t.Helper()
	got := impl.DoModel(items, o)
	if got.Code != want.Code || !sameItemsByRule(got.Items, want.Items) || !slices.Equal(got.Numbers, want.Numbers) || !slices.Equal(got.Names, want.Names) {
		t.Fatalf("DoModel of %.300v and %.300v\n = %.300v,\nwant %.300v", items, o, got, want)
	}
}

func checkItemsResult(t *testing.T, what string, got impl.ItemsResult, want impl.ItemsResult) {
	t.Helper()
	if got.Code != want.Code || !sameItemsByRule(got.Items, want.Items) {
		t.Fatalf("%s: got %.500v, want %.500v", what, got, want)
	}
}

func checkTree(t *testing.T, words []int64) int64 {
	t.Helper()
	want := treeByRule(words)
	checkItemsResult(t, "TreeOf", impl.TreeOf(words), want)
	return want.Code
}

func TestAnyItemsAndOpAreAnsweredAsTheDocumentTells(t *testing.T) {
	r := rand.New(rand.NewSource(28))
	// seen: of each kind of op how often it had which code.
	seen := map[int64]map[int64]int{}
	for range 8000 {
		items := anyItems(r)
		checkItemsFault(t, "any items", items, 0)
		for range 10 {
			o := anyOp(r, items)
			checkOpFault(t, o, opFaultByRule(o))
			want := doByRule(items, o)
			checkDone(t, items, o, want)
			if seen[o.Kind] == nil {
				seen[o.Kind] = map[int64]int{}
			}
			seen[o.Kind][want.Code]++
		}
	}
	checkSeen(t, seen[impl.OpMake], impl.OK, impl.ErrForm, impl.ErrNone, impl.ErrTaken, impl.ErrText)
	checkSeen(t, seen[impl.OpWrite], impl.OK, impl.ErrForm, impl.ErrNone, impl.ErrRange, impl.ErrText)
	checkSeen(t, seen[impl.OpCut], impl.OK, impl.ErrForm, impl.ErrNone, impl.ErrRange, impl.ErrText)
	checkSeen(t, seen[impl.OpDrop], impl.OK, impl.ErrForm, impl.ErrNone, impl.ErrState, impl.ErrText)
	checkSeen(t, seen[impl.OpMove], impl.OK, impl.ErrForm, impl.ErrNone, impl.ErrTaken, impl.ErrMany, impl.ErrText)
	checkSeen(t, seen[impl.OpRead], impl.OK, impl.ErrForm, impl.ErrNone, impl.ErrText)
	checkSeen(t, seen[impl.OpList], impl.OK, impl.ErrForm, impl.ErrNone, impl.ErrText)
	checkSeen(t, seen[impl.OpSync], impl.OK, impl.ErrForm)
}

func TestManyItemsAndAnyOpAreAnsweredAsTheDocumentTells(t *testing.T) {
	r := rand.New(rand.NewSource(29))
	seen := map[int64]int{}
	for range 300 {
		items := anyCrowd(r)
		for range 10 {
			o := anyOp(r, items)
			if r.Intn(2) == 0 {
				o = impl.Op{Kind: impl.OpMake, Path: "/" + anyName(r), Dir: r.Intn(2) == 0}
			}
			want := doByRule(items, o)
			checkDone(t, items, o, want)
			seen[want.Code]++
		}
	}
	checkSeen(t, seen, impl.OK, impl.ErrFull)
}

func TestItemsWithAnyFaultAreAnsweredAsTheDocumentTells(t *testing.T) {
	r := rand.New(rand.NewSource(30))
	seen := map[int64]int{}
	for range 10000 {
		items := spoiltItems(r, anyItems(r))
		want := itemsFaultByRule(items)
		checkItemsFault(t, "spoilt items", items, want)
		o := anyOp(r, items)
		checkDone(t, items, o, doByRule(items, o))
		checkItemsResult(t, "RunModel", impl.RunModel(items, []impl.Op{o}), runByRule(items, []impl.Op{o}))
		seen[want]++
	}
	checkSeen(t, seen, impl.OK, impl.ErrText, impl.ErrMany, impl.ErrForm, impl.ErrRange, impl.ErrNone, impl.ErrState)
}

func TestAnyOpsOneBehindTheOtherAreAnsweredAsTheDocumentTells(t *testing.T) {
	r := rand.New(rand.NewSource(31))
	seen := map[int64]int{}
	for range 2000 {
		items := anyItems(r)
		now := items
		var list []impl.Op
		for range r.Intn(25) {
			o := anyOp(r, now)
			done := doByRule(now, o)
			// One that has a code ends it; most of these are left out, so that lists get long.
			if done.Code != 0 && r.Intn(20) > 0 {
				continue
			}
			list = append(list, o)
			if done.Code == 0 {
				now = done.Items
			}
		}
		want := runByRule(items, list)
		checkItemsResult(t, "RunModel", impl.RunModel(items, list), want)
		seen[want.Code]++
	}
	checkSeen(t, seen, impl.OK, impl.ErrNone, impl.ErrForm)
}

// renamed: names that do not rise as the Uids do, in each block of a node.
func renamed(words []int64) []int64 {
	words = slices.Clone(words)
	for line := 1; line < len(words)/8; line++ {
		if h, is := headByRule(words[8*line]); is && h.Kind == 1 && h.Epoch+2 <= words[1] {
			words[8*line+3] = dirBlock(1, 0, uidName(h.Uid*77%1000), 1)[3]
		}
	}
	return words
}

func TestTheTreeOfAnyImageIsToldAsTheDocumentTells(t *testing.T) {
	r := rand.New(rand.NewSource(32))
	seen := map[int64]int{}
	for range 2000 {
		words := anyImage(r)
		seen[checkTree(t, words)]++
		seen[checkTree(t, renamed(words))]++
		words[r.Intn(len(words))] = blockNumbers()[r.Intn(len(blockNumbers()))]
		seen[checkTree(t, words)]++
		copy(words[8*(1+r.Intn(len(words)/8-1)):], anySmallBlock(r, 9))
		seen[checkTree(t, words)]++
	}
	checkSeen(t, seen, impl.OK, impl.ErrForm, impl.ErrRange, impl.ErrText, impl.ErrState)
}

func TestAnyTwoListsOfItemsAreHeldAgainstEachOther(t *testing.T) {
	r := rand.New(rand.NewSource(33))
	seen := map[bool]int{}
	for range 5000 {
		a := anyItems(r)
		for _, b := range [][]impl.Item{copyOfItems(a), spoiltItems(r, a), anyItems(r)} {
			want := sameItemsByRule(a, b)
			if impl.SameItems(a, b) != want || impl.SameItems(b, a) != want {
				t.Fatalf("SameItems of %v and %v is not %v", a, b, want)
			}
			seen[want]++
		}
	}
	if seen[true] < 5000 || seen[false] < 5000 {
		t.Errorf("too few were the same, or not: %v", seen)
	}
}
