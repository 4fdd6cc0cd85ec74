package tests

import (
	"math/rand"
	"reflect"
	"slices"
	"strings"
	"testing"

	"loop.example/g00691/impl"
)

// What a change takes once more, by searching lists of nodes as the document tells it, to hold the program's answers against.

// nodeAtByRule: the node whose names from the root on make the path, or the zero one.
func nodeAtByRule(nodes []impl.Version, path string) impl.Node {
	for _, v := range nodes {
		at := "/" + v.Block.Node.Name
		for up, is := nodeInByRule(nodes, v.Block.Node.Parent); is; up, is = nodeInByRule(nodes, up.Parent) {
			at = "/" + up.Name + at
		}
		if at == path {
			return v.Block.Node
		}
	}
	return impl.Node{}
}

func changesByRule(live impl.LiveResult, o impl.Op, next int64) []impl.Change {
	it := nodeAtByRule(live.Nodes, o.Path)
	node := func(n impl.Node) impl.Change { return impl.Change{Kind: 1, Uid: n.Uid, Node: n} }
	var loose []impl.Change
	for _, d := range live.Datas {
		h := d.Block.Head
		// A drop has the Index 0, as a cut to nothing has.
		if h.Uid == it.Uid && h.Index >= o.Index {
			loose = append(loose, impl.Change{Kind: 4, Uid: h.Uid, Index: h.Index})
		}
	}
	to := o.To
	if o.Kind == 1 {
		it, to = impl.Node{Uid: next, Dir: o.Dir}, o.Path
	}
	if o.Kind == 1 || o.Kind == 5 {
		names := strings.Split(to, "/")
		it.Parent, it.Name = nodeAtByRule(live.Nodes, parentByRule(to)).Uid, names[len(names)-1]
		return []impl.Change{node(it)}
	}
	isMore := it.Size == o.Index
	switch o.Kind {
	case 2:
		piece := impl.Change{Kind: 2, Uid: it.Uid, Index: o.Index, Numbers: o.Numbers}
		if it.Size++; isMore {
			return []impl.Change{piece, node(it)}
		}
		return []impl.Change{piece}
	case 3:
		if it.Size = o.Index; isMore {
			return nil
		}
		return append([]impl.Change{node(it)}, loose...)
	case 4:
		return append([]impl.Change{{Kind: 3, Uid: it.Uid}}, loose...)
	}
	return nil
}

func planByRule(words []int64, o impl.Op) impl.ChangesResult {
	live := liveByRule(words)
	if live.Code != 0 {
		return impl.ChangesResult{Code: live.Code}
	}
	if len(live.Dead) > 0 {
		return impl.ChangesResult{Code: impl.ErrState}
	}
	if done := doByRule(treeByRule(words).Items, o); done.Code != 0 {
		return impl.ChangesResult{Code: done.Code}
	}
	next := nextByRule(words)
	if o.Kind == 1 && next.Code != 0 {
		return impl.ChangesResult{Code: next.Code}
	}
	return impl.ChangesResult{Changes: changesByRule(live, o, next.Value)}
}

// blockByRule: of a change that takes a line.
func blockByRule(c impl.Change, epoch int64) []int64 {
	switch c.Kind {
	case 1:
		return made(packNodeByRule(c.Node, epoch))
	case 2:
		return made(packDataByRule(c.Uid, c.Index, c.Numbers, epoch))
	}
	return made(packGoneByRule(c.Uid, epoch))
}

// needByRule: what lives is sure, so nothing that there is is of the epoch that the clock tells.
func needByRule(words []int64, o impl.Op) impl.IntResult {
	plan := planByRule(words, o)
	need := impl.IntResult{Code: plan.Code}
	for _, c := range plan.Changes {
		if c.Kind != 4 {
			need.Value++
		}
	}
	return need
}

func applyByRule(words []int64, o impl.Op) impl.ImageResult {
	plan := planByRule(words, o)
	if plan.Code != 0 {
		return impl.ImageResult{Code: plan.Code}
	}
	words = slices.Clone(words)
	free := freeByRule(words).List
	for _, c := range plan.Changes {
		if c.Kind == 4 {
			continue
		}
		if len(free) == 0 {
			return impl.ImageResult{Code: impl.ErrFull}
		}
		copy(words[8*free[0]:8*free[0]+8], blockByRule(c, words[1]))
		free = free[1:]
	}
	return impl.ImageResult{Words: words}
}

func clockToByRule(words []int64, clock int64) impl.ImageResult {
	now := clockByRule(words)
	if now.Code != 0 {
		return impl.ImageResult{Code: now.Code}
	}
	if clock < now.Value || clock > 9999 {
		return impl.ImageResult{Code: impl.ErrRange}
	}
	return impl.ImageResult{Words: ofClock(words, clock)}
}

func sameChangesByRule(a []impl.Change, b []impl.Change) bool {
	if len(a) != len(b) {
		return false
	}
	for i := range a {
		first, second := a[i], b[i]
		first.Numbers, second.Numbers = nil, nil
		if !reflect.DeepEqual(first, second) || !slices.Equal(a[i].Numbers, b[i].Numbers) {
			return false
		}
	}
	return true
}

func checkPlanned(t *testing.T, what string, got impl.ChangesResult, want impl.ChangesResult) {
	t.Helper()
	if got.Code != want.Code || !sameChangesByRule(got.Changes, want.Changes) {
		t.Fatalf("%s: PlanOp = %v, want %v", what, got, want)
	}
}

func checkNeed(t *testing.T, what string, got impl.IntResult, want impl.IntResult) {
	t.Helper()
	if got != want {
		t.Fatalf("%s: NeedOf = %+v, want %+v", what, got, want)
	}
}

func checkWordsResult(t *testing.T, what string, got impl.ImageResult, want impl.ImageResult) {
	t.Helper()
	if got.Code != want.Code || !slices.Equal(got.Words, want.Words) {
		t.Fatalf("%s: got %v, want %v", what, got, want)
	}
}

// checkOpOn holds all that can be asked of words and an op against the rule, and answers the code of ApplyOp.
func checkOpOn(t *testing.T, words []int64, o impl.Op) int64 {
	t.Helper()
	checkPlanned(t, "any words and op", impl.PlanOp(words, o), planByRule(words, o))
	checkNeed(t, "any words and op", impl.NeedOf(words, o), needByRule(words, o))
	want := applyByRule(words, o)
	checkWordsResult(t, "ApplyOp", impl.ApplyOp(words, o), want)
	return want.Code
}

func checkClockTo(t *testing.T, words []int64, clock int64) int64 {
	t.Helper()
	want := clockToByRule(words, clock)
	checkWordsResult(t, "ClockTo", impl.ClockTo(words, clock), want)
	return want.Code
}

func TestAnyWordsAndOpAreAnsweredAsTheDocumentTells(t *testing.T) {
	r := rand.New(rand.NewSource(39))
	// seen: of each kind of op how often ApplyOp had which code.
	seen := map[int64]map[int64]int{}
	for range 2000 {
		words := anyKept(r)
		for range 8 {
			o := opOn(r, words)
			if seen[o.Kind] == nil {
				seen[o.Kind] = map[int64]int{}
			}
			seen[o.Kind][checkOpOn(t, words, o)]++
		}
	}
	checkSeen(t, seen[impl.OpMake], impl.OK, impl.ErrForm, impl.ErrNone, impl.ErrTaken, impl.ErrFull)
	checkSeen(t, seen[impl.OpWrite], impl.OK, impl.ErrForm, impl.ErrNone, impl.ErrRange, impl.ErrFull)
	checkSeen(t, seen[impl.OpCut], impl.OK, impl.ErrForm, impl.ErrNone, impl.ErrRange, impl.ErrFull)
	checkSeen(t, seen[impl.OpDrop], impl.OK, impl.ErrNone, impl.ErrState, impl.ErrFull)
	checkSeen(t, seen[impl.OpMove], impl.OK, impl.ErrForm, impl.ErrNone, impl.ErrTaken, impl.ErrFull)
	checkSeen(t, seen[impl.OpRead], impl.OK, impl.ErrForm, impl.ErrNone)
	checkSeen(t, seen[impl.OpList], impl.OK, impl.ErrForm, impl.ErrNone)
	checkSeen(t, seen[impl.OpSync], impl.OK, impl.ErrForm)
}

func TestAnyWordsWithAFaultAreAnsweredAsTheDocumentTells(t *testing.T) {
	r := rand.New(rand.NewSource(40))
	seen := map[int64]int{}
	for range 3000 {
		words := anyImage(r)
		if r.Intn(2) == 0 {
			words = anyKept(r)
		}
		o := opOn(r, words)
		seen[checkOpOn(t, words, o)]++
		other := slices.Clone(words)
		other[r.Intn(len(other))] = blockNumbers()[r.Intn(len(blockNumbers()))]
		seen[checkOpOn(t, other, o)]++
		line := 1 + r.Intn(len(words)/8-1)
		seen[checkOpOn(t, laid(words, line, anySmallBlock(r, words[1])), o)]++
	}
	checkSeen(t, seen, impl.OK, impl.ErrForm, impl.ErrRange, impl.ErrText, impl.ErrState)
}

func TestAnyClockOfAnyWordsIsAnsweredAsTheDocumentTells(t *testing.T) {
	r := rand.New(rand.NewSource(41))
	seen := map[int64]int{}
	for range 2000 {
		words := anyImage(r)
		if r.Intn(3) == 0 {
			words[r.Intn(len(words))] = blockNumbers()[r.Intn(len(blockNumbers()))]
		}
		seen[checkClockTo(t, words, words[1]-1+r.Int63n(4))]++
		seen[checkClockTo(t, words, blockNumbers()[r.Intn(len(blockNumbers()))])]++
	}
	checkSeen(t, seen, impl.OK, impl.ErrRange)
}

func TestAnyTwoListsOfChangesAreHeldAgainstEachOther(t *testing.T) {
	r := rand.New(rand.NewSource(42))
	seen := map[bool]int{}
	for range 5000 {
		var a []impl.Change
		for range r.Intn(5) {
			a = append(a, anyChange(r))
		}
		b := copyOfChanges(a)
		if len(b) > 0 && r.Intn(2) == 0 {
			b[r.Intn(len(b))] = anyChange(r)
		}
		r.Shuffle(len(b)*r.Intn(2), func(i int, j int) { b[i], b[j] = b[j], b[i] })
		want := sameChangesByRule(a, b)
		if impl.SameChanges(a, b) != want || impl.SameChanges(b, a) != want {
			t.Fatalf("SameChanges of %v and %v is not %v", a, b, want)
		}
		seen[want]++
	}
	if seen[true] < 1000 || seen[false] < 1000 {
		t.Errorf("too few were the same, or not: %v", seen)
	}
}
