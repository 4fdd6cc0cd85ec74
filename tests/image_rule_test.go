package tests

import (
	"math/rand"
	"slices"
	"testing"

	"loop.example/g00691/impl"
)

// What the device keeps once more, by searching all versions as the document tells it, to hold the program's answers against.

func formatByRule(lines int64) impl.ActsResult {
	if lines < 2 || lines > 41 {
		return impl.ActsResult{Code: impl.ErrMany}
	}
	var acts []impl.Act
	for line := int64(1); line < lines; line++ {
		acts = append(acts, impl.Act{Kind: 1, At: 8 * line}, impl.Act{Kind: 2, At: line})
	}
	acts = append(acts, impl.Act{Kind: 3})
	acts = append(acts, impl.Act{Kind: 1, At: 1, Value: 2}, impl.Act{Kind: 2}, impl.Act{Kind: 3})
	acts = append(acts, impl.Act{Kind: 1, At: 0, Value: 691691691}, impl.Act{Kind: 2}, impl.Act{Kind: 3})
	return impl.ActsResult{Acts: acts}
}

func clockByRule(words []int64) impl.IntResult {
	if len(words) < 16 || len(words) > 328 || len(words)%8 != 0 {
		return impl.IntResult{Code: impl.ErrMany}
	}
	if slices.Min(words) < 0 || slices.Max(words) >= noWord {
		return impl.IntResult{Code: impl.ErrRange}
	}
	if words[0] != 691691691 {
		return impl.IntResult{Code: impl.ErrState}
	}
	if words[1] < 2 || words[1] > 9999 {
		return impl.IntResult{Code: impl.ErrRange}
	}
	return impl.IntResult{Value: words[1]}
}

func versionsByRule(words []int64) impl.VersionsResult {
	clock := clockByRule(words)
	if clock.Code != 0 {
		return impl.VersionsResult{Code: clock.Code}
	}
	var versions []impl.Version
	for line := 1; line < len(words)/8; line++ {
		words := words[8*line : 8*line+8]
		h, is := headByRule(words[0])
		if !is {
			return impl.VersionsResult{Code: impl.ErrForm}
		}
		if h.Kind == 0 {
			continue
		}
		read := impl.BlockResult{Block: impl.Block{Head: h}}
		if h.Epoch+2 <= clock.Value {
			read = readByRule(words)
		}
		if read.Code != 0 {
			return impl.VersionsResult{Code: read.Code}
		}
		versions = append(versions, impl.Version{Line: int64(line), Block: read.Block})
	}
	return impl.VersionsResult{Versions: versions}
}

func freeByRule(words []int64) impl.IntsResult {
	if code := versionsByRule(words).Code; code != 0 {
		return impl.IntsResult{Code: code}
	}
	var free []int64
	for line := 1; line < len(words)/8; line++ {
		if words[8*line] == 0 {
			free = append(free, int64(line))
		}
	}
	return impl.IntsResult{List: free}
}

func nextByRule(words []int64) impl.IntResult {
	versions := versionsByRule(words)
	if versions.Code != 0 {
		return impl.IntResult{Code: versions.Code}
	}
	next := int64(1)
	for _, v := range versions.Versions {
		next = max(next, v.Block.Head.Uid+1)
	}
	if next > 999 {
		return impl.IntResult{Code: impl.ErrFull}
	}
	return impl.IntResult{Value: next}
}

func sameThingByRule(a impl.Head, b impl.Head) bool {
	return a.Uid == b.Uid && a.Index == b.Index && (a.Kind == 2) == (b.Kind == 2)
}

// newestByRule: the newest of these that tells of the same thing, if there is one.
func newestByRule(sure []impl.Version, wanted impl.Head) (impl.Version, bool) {
	newest, is := impl.Version{}, false
	for _, v := range sure {
		if sameThingByRule(v.Block.Head, wanted) && (!is || v.Block.Head.Epoch > newest.Block.Head.Epoch) {
			newest, is = v, true
		}
	}
	return newest, is
}

// uidsByRule rises.
func uidsByRule(versions []impl.Version) []int64 {
	var uids []int64
	for _, v := range versions {
		uids = append(uids, v.Block.Head.Uid)
	}
	slices.Sort(uids)
	return slices.Compact(uids)
}

func isTakenByRule(sure []impl.Version) bool {
	for i, a := range sure {
		for _, b := range sure[:i] {
			if sameThingByRule(a.Block.Head, b.Block.Head) && a.Block.Head.Epoch == b.Block.Head.Epoch {
				return true
			}
		}
	}
	return false
}

func nodeInByRule(nodes []impl.Version, uid int64) (impl.Node, bool) {
	for _, v := range nodes {
		if v.Block.Node.Uid == uid {
			return v.Block.Node, true
		}
	}
	return impl.Node{}, false
}

// depthByRule: in how many steps it leads from a node to 0, or 99.
func depthByRule(nodes []impl.Version, n impl.Node, most int) int {
	if n.Parent == 0 {
		return 1
	}
	parent, is := nodeInByRule(nodes, n.Parent)
	if !is || most == 0 {
		return 99
	}
	return 1 + depthByRule(nodes, parent, most-1)
}

func isTreeByRule(nodes []impl.Version) bool {
	for i, v := range nodes {
		n := v.Block.Node
		parent, is := nodeInByRule(nodes, n.Parent)
		if n.Parent != 0 && (!is || !parent.Dir) {
			return false
		}
		if depthByRule(nodes, n, 50) > 4 {
			return false
		}
		for _, other := range nodes[:i] {
			if other.Block.Node.Parent == n.Parent && other.Block.Node.Name == n.Name {
				return false
			}
		}
	}
	return true
}

func liveByRule(words []int64) impl.LiveResult {
	versions := versionsByRule(words)
	if versions.Code != 0 {
		return impl.LiveResult{Code: versions.Code}
	}
	live := impl.LiveResult{Clock: words[1]}
	sure := slices.DeleteFunc(slices.Clone(versions.Versions), func(v impl.Version) bool {
		return v.Block.Head.Epoch > words[1]-2
	})
	if isTakenByRule(sure) {
		return impl.LiveResult{Code: impl.ErrTaken}
	}
	lives := map[int64]int{}
	isMissing := false
	for _, uid := range uidsByRule(sure) {
		v, is := newestByRule(sure, impl.Head{Kind: 1, Uid: uid})
		if !is || v.Block.Head.Kind != 1 {
			continue
		}
		live.Nodes = append(live.Nodes, v)
		lives[v.Line]++
		for index := int64(0); index < v.Block.Node.Size; index++ {
			p, is := newestByRule(sure, impl.Head{Kind: 2, Uid: uid, Index: index})
			isMissing = isMissing || !is
			live.Datas = append(live.Datas, p)
			lives[p.Line]++
		}
	}
	if isMissing || !isTreeByRule(live.Nodes) {
		return impl.LiveResult{Code: impl.ErrState}
	}
	for _, v := range versions.Versions {
		if lives[v.Line] == 0 {
			live.Dead = append(live.Dead, v.Line)
		}
	}
	return live
}

func sameVersion(a impl.Version, b impl.Version) bool {
	return a.Line == b.Line && sameBlockByRule(a.Block, b.Block)
}

func sameVersions(a []impl.Version, b []impl.Version) bool {
	return slices.EqualFunc(a, b, sameVersion)
}

func checkActs(t *testing.T, lines int64, got impl.ActsResult, want impl.ActsResult) {
	t.Helper()
	if got.Code != want.Code || !slices.Equal(got.Acts, want.Acts) {
		t.Fatalf("FormatActs of %d lines = %v, want %v", lines, got, want)
	}
}

func checkClock(t *testing.T, words []int64, want impl.IntResult) {
	t.Helper()
	if got := impl.ClockOf(words); got != want {
		t.Fatalf("ClockOf of %.400v = %+v, want %+v", words, got, want)
	}
}

func checkVersions(t *testing.T, words []int64, want impl.VersionsResult) {
	t.Helper()
	got := impl.VersionsIn(words)
	if got.Code != want.Code || !sameVersions(got.Versions, want.Versions) {
		t.Fatalf("VersionsIn of %.400v = %+v, want %+v", words, got, want)
	}
}

func checkFree(t *testing.T, words []int64, want impl.IntsResult) {
	t.Helper()
	got := impl.FreeIn(words)
	if got.Code != want.Code || !slices.Equal(got.List, want.List) {
		t.Fatalf("FreeIn of %.400v = %+v, want %+v", words, got, want)
	}
}

func checkNext(t *testing.T, words []int64, want impl.IntResult) {
	t.Helper()
	if got := impl.NextUid(words); got != want {
		t.Fatalf("NextUid of %.400v = %+v, want %+v", words, got, want)
	}
}

func checkLive(t *testing.T, words []int64, want impl.LiveResult) {
	t.Helper()
	got := impl.LiveOf(words)
	isSame := got.Code == want.Code && got.Clock == want.Clock && slices.Equal(got.Dead, want.Dead) &&
		sameVersions(got.Nodes, want.Nodes) && sameVersions(got.Datas, want.Datas)
	if !isSame {
		t.Fatalf("LiveOf of %.2000v = %+v, want %+v", words, got, want)
	}
}

// checkImage holds all that can be asked of words against the rule, and answers the code of LiveOf.
func checkImage(t *testing.T, words []int64) int64 {
	t.Helper()
	checkClock(t, words, clockByRule(words))
	checkVersions(t, words, versionsByRule(words))
	checkFree(t, words, freeByRule(words))
	checkNext(t, words, nextByRule(words))
	want := liveByRule(words)
	checkLive(t, words, want)
	checkEachLine(t, words)
	return want.Code
}

func TestAnyImageIsReadAsTheDocumentTells(t *testing.T) {
	r := rand.New(rand.NewSource(21))
	for range 2000 {
		words := anyImage(r)
		if code := checkImage(t, words); code != impl.OK {
			t.Fatalf("an image that was made right has the code %d: %v", code, words)
		}
	}
}

// checkSeen: the images that were tried had each of these codes often enough to tell something.
func checkSeen(t *testing.T, seen map[int64]int, codes ...int64) {
	t.Helper()
	for _, code := range codes {
		if seen[code] < 20 {
			t.Errorf("the code %d was seen %d times only: %v", code, seen[code], seen)
		}
	}
}

func TestAnImageWithAnyOtherWordIsReadAsTheDocumentTells(t *testing.T) {
	r := rand.New(rand.NewSource(22))
	seen := map[int64]int{}
	numbers := append(blockNumbers(), 691691691)
	for range 10000 {
		words := anyImage(r)
		for range 1 + r.Intn(2) {
			words[r.Intn(len(words))] = numbers[r.Intn(len(numbers))]
		}
		seen[checkImage(t, words)]++
	}
	checkSeen(t, seen, impl.OK, impl.ErrForm, impl.ErrRange, impl.ErrText, impl.ErrState)
}

func TestAnImageWithOtherLinesIsReadAsTheDocumentTells(t *testing.T) {
	r := rand.New(rand.NewSource(23))
	seen := map[int64]int{}
	for range 10000 {
		words := anyImage(r)
		lines := len(words) / 8
		for range 1 + r.Intn(2) {
			from, to := 1+r.Intn(lines-1), 1+r.Intn(lines-1)
			switch r.Intn(3) {
			case 0:
				words[8*from] = 0
			case 1:
				copy(words[8*to:8*to+8], words[8*from:8*from+8])
			case 2:
				copy(words[8*to:8*to+8], anySmallBlock(r, words[1]))
			}
		}
		seen[checkImage(t, words)]++
	}
	checkSeen(t, seen, impl.OK, impl.ErrTaken, impl.ErrState)
}

func TestAnImageOfAnotherClockIsReadAsTheDocumentTells(t *testing.T) {
	r := rand.New(rand.NewSource(24))
	seen := map[int64]int{}
	for range 5000 {
		words := anyImage(r)
		words[1] += r.Int63n(7) - 3
		seen[checkImage(t, words)]++
	}
	checkSeen(t, seen, impl.OK, impl.ErrText, impl.ErrState)
}

func TestAnImageOfAnyBlocksIsReadAsTheDocumentTells(t *testing.T) {
	r := rand.New(rand.NewSource(25))
	seen := map[int64]int{}
	for range 30000 {
		words := emptyImage(2+r.Intn(8), 3+r.Int63n(5))
		for line := 1; line < len(words)/8; line++ {
			if r.Intn(5) > 0 {
				copy(words[8*line:], anySmallBlock(r, words[1]))
			}
		}
		seen[checkImage(t, words)]++
	}
	checkSeen(t, seen, impl.OK, impl.ErrTaken, impl.ErrState)
}
