package tests

import (
	"slices"
	"testing"

	"loop.example/g00691/impl"
)

// What crashes leave once more, by going through the acts and the cells as the document tells it, to hold the program's answers against.

// leftByRule: a crash behind the first cut acts on this device.
func leftByRule(d impl.Device, acts []impl.Act, cut int64, fates []int64) impl.WordsListResult {
	if cut < 0 || cut > int64(len(acts)) {
		return impl.WordsListResult{Code: impl.ErrRange}
	}
	if slices.ContainsFunc(fates, func(fate int64) bool { return fate != 0 && fate != 1 }) {
		return impl.WordsListResult{Code: impl.ErrRange}
	}
	d = actsByRule(d, acts[:cut]).Device
	words := slices.Clone(d.Words)
	for i, cell := range slices.Concat(d.Flights, d.Over) {
		if len(fates) > 0 && fates[i%len(fates)] == 1 {
			words[cell.At] = cell.Value
		}
	}
	return impl.WordsListResult{Words: words}
}

func formatCrashByRule(lines int64, cut int64, fates []int64) impl.WordsListResult {
	acts := formatByRule(lines)
	if acts.Code != 0 {
		return impl.WordsListResult{Code: acts.Code}
	}
	return leftByRule(impl.Device{Words: make([]int64, 8*lines)}, acts.Acts, cut, fates)
}

func isCleanByRule(words []int64) bool {
	live := liveByRule(words)
	return live.Code == 0 && len(live.Dead) == 0
}

// wiping: the acts by which these lines are freed, and a fence.
func wiping(lines ...int64) []impl.Act {
	var acts []impl.Act
	for _, line := range lines {
		acts = append(acts, impl.Act{Kind: 1, At: 8 * line}, impl.Act{Kind: 2, At: line})
	}
	return append(acts, impl.Act{Kind: 3})
}

func mountActsByRule(words []int64) impl.ActsResult {
	live := liveByRule(words)
	if live.Code != 0 {
		return impl.ActsResult{Code: live.Code}
	}
	var first, last []int64
	for _, line := range live.Dead {
		h, _ := headByRule(words[8*line])
		if h.Kind == 3 && h.Epoch+2 <= live.Clock {
			last = append(last, line)
		} else {
			first = append(first, line)
		}
	}
	if len(last) == 0 {
		return impl.ActsResult{Acts: wiping(first...)}
	}
	return impl.ActsResult{Acts: slices.Concat(wiping(first...), wiping(last...))}
}

// mountWordsByRule asks no act: of each dead line the first word is 0.
func mountWordsByRule(words []int64) impl.WordsListResult {
	if live := liveByRule(words); live.Code != 0 {
		return impl.WordsListResult{Code: live.Code}
	}
	return impl.WordsListResult{Words: swept(words)}
}

func mountCrashByRule(words []int64, cut int64, fates []int64) impl.WordsListResult {
	acts := mountActsByRule(words)
	if acts.Code != 0 {
		return impl.WordsListResult{Code: acts.Code}
	}
	return leftByRule(impl.Device{Words: words}, acts.Acts, cut, fates)
}

func mountChainByRule(words []int64, cuts []int64, fates []int64) impl.WordsListResult {
	if len(cuts) > 6 {
		return impl.WordsListResult{Code: impl.ErrMany}
	}
	for _, cut := range cuts {
		if cut < 0 {
			return impl.WordsListResult{Code: impl.ErrRange}
		}
		many := int64(len(mountActsByRule(words).Acts)) + 1
		left := mountCrashByRule(words, cut%many, fates)
		if left.Code != 0 {
			return left
		}
		words = left.Words
	}
	return mountWordsByRule(words)
}

func checkLeft(t *testing.T, what string, got impl.WordsListResult, want impl.WordsListResult) {
	t.Helper()
	if got.Code != want.Code || !slices.Equal(got.Words, want.Words) {
		t.Fatalf("%s: got %+v\nwant %+v", what, got, want)
	}
}

// checkFormatCrash holds what a crash leaves of a device that is made against the rule, and answers it.
func checkFormatCrash(t *testing.T, lines int64, cut int64, fates []int64) impl.WordsListResult {
	t.Helper()
	got := impl.FormatCrash(lines, cut, fates)
	checkLeft(t, "FormatCrash", got, formatCrashByRule(lines, cut, fates))
	return got
}

// checkMount holds what is asked of words alone against the rule, and answers the acts.
func checkMount(t *testing.T, words []int64) impl.ActsResult {
	t.Helper()
	if got, want := impl.IsClean(words), isCleanByRule(words); got != want {
		t.Fatalf("IsClean of %.2000v = %v, want %v", words, got, want)
	}
	got, want := impl.MountActs(words), mountActsByRule(words)
	if got.Code != want.Code || !slices.Equal(got.Acts, want.Acts) {
		t.Fatalf("MountActs of %.2000v\n= %+v\nwant %+v", words, got, want)
	}
	checkLeft(t, "MountWords", impl.MountWords(words), mountWordsByRule(words))
	return got
}

// checkMountCrash holds what a crash leaves of words of a device that comes up against the rule, and answers it.
func checkMountCrash(t *testing.T, words []int64, cut int64, fates []int64) impl.WordsListResult {
	t.Helper()
	got := impl.MountCrash(words, cut, fates)
	checkLeft(t, "MountCrash", got, mountCrashByRule(words, cut, fates))
	return got
}

// checkChain holds what several crashes leave against the rule, and answers it.
func checkChain(t *testing.T, words []int64, cuts []int64, fates []int64) impl.WordsListResult {
	t.Helper()
	got := impl.MountChain(words, cuts, fates)
	checkLeft(t, "MountChain", got, mountChainByRule(words, cuts, fates))
	return got
}

// checkSameTree: these words tell just what those told.
func checkSameTree(t *testing.T, what string, before []int64, after []int64) {
	t.Helper()
	got, want := treeByRule(after), treeByRule(before)
	if got.Code != 0 || want.Code != 0 {
		t.Fatalf("%s: the codes of the trees are %d, and %d ahead of it", what, got.Code, want.Code)
	}
	checkItemsResult(t, what, got, want)
	checkItemsResult(t, what, impl.TreeOf(after), impl.TreeOf(before))
}

func checkIsClean(t *testing.T, what string, words []int64) {
	t.Helper()
	checkMount(t, words)
	if !impl.IsClean(words) {
		t.Fatalf("%s: %+v is dead", what, impl.LiveOf(words).Dead)
	}
}
