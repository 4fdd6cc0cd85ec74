package tests

import (
	"fmt"
	"math/rand"
	"slices"
	"testing"

	"loop.example/g00691/impl"
)

func TestOfAnySettledWorldNothingIsOnItsWay(t *testing.T) {
	r := rand.New(rand.NewSource(91))
	items := 0
	for range 200 {
		asked := anyDrain(r, r.Intn(185))
		// No world that these events make comes to its last epoch.
		asked.config.Clock = 2 + r.Int63n(9000)
		s := impl.SettleWorld(asked.config, asked.events).State
		checkNothingOnItsWay(t, "settled", s)
		words := s.Device.Words
		checkIsClean(t, "settled", words)
		checkMountActs(t, "settled", words, impl.Act{Kind: impl.ActFence})
		live := impl.LiveOf(words)
		told := slices.Concat(impl.FreeIn(words).List, linesOf(live.Nodes), linesOf(live.Datas))
		slices.Sort(told)
		if !slices.Equal(told, rising(1, asked.config.Lines-1)) {
			t.Fatalf("free, or with a node or a piece, are the lines %v of %d", told, asked.config.Lines)
		}
		checkItemsResult(t, "a crash of what is settled", impl.TreeOf(impl.MountCrash(words, 0, nil).Words), impl.ItemsResult{Items: s.Items})
		items += len(s.Items)
	}
	if items < 200 {
		t.Errorf("there were only %d items", items)
	}
}

// someFates: few or many of them, and now and then one that is none.
func someFates(r *rand.Rand) []int64 {
	fates := anyFates(r, r.Intn(12))
	if r.Intn(12) == 0 {
		fates = append(fates, r.Int63n(6)-2)
	}
	return fates
}

func TestWhateverACrashLeavesOfADeviceThatIsMadeIsNoneYetOrItIsEmpty(t *testing.T) {
	r := rand.New(rand.NewSource(92))
	seen := map[int64]int{}
	none, empty := 0, 0
	for lines := int64(0); lines <= 43; lines++ {
		for cut := int64(-1); cut <= 2*lines+6; cut++ {
			got := checkFormatCrash(t, lines, cut, someFates(r))
			seen[got.Code]++
			if got.Code != 0 {
				continue
			}
			if impl.LiveOf(got.Words).Code != 0 {
				none++
				continue
			}
			empty++
			checkIsClean(t, "empty", got.Words)
			if tree := impl.TreeOf(got.Words); tree.Code != 0 || len(tree.Items) > 0 {
				t.Fatalf("there is %+v in a device that is being made", tree)
			}
			if free := impl.FreeIn(got.Words).List; !slices.Equal(free, rising(1, lines-1)) {
				t.Fatalf("of %d lines are free %v", lines, free)
			}
		}
	}
	checkSeen(t, seen, impl.OK, impl.ErrMany, impl.ErrRange)
	if none < 500 || empty < 50 {
		t.Errorf("there was none yet %d times, and an empty one %d times", none, empty)
	}
}

// anyWords: words of which LiveOf may have a code, and mostly something is dead.
func anyWords(r *rand.Rand) []int64 {
	words := anyImage(r)
	switch r.Intn(4) {
	case 0:
		words[1] = max(2, min(words[1]+r.Int63n(5)-2, 9999))
	case 1:
		for range 1 + r.Intn(3) {
			words = laid(words, 1+r.Intn(len(words)/8-1), anySmallBlock(r, words[1]))
		}
	case 2:
		words = emptyImage(2+r.Intn(8), 3+r.Int63n(5))
		for line := 1; line < len(words)/8; line++ {
			if r.Intn(5) > 0 {
				copy(words[8*line:], anySmallBlock(r, words[1]))
			}
		}
	}
	if r.Intn(20) == 0 {
		words[r.Intn(len(words))] = blockNumbers()[r.Intn(len(blockNumbers()))]
	}
	return words
}

func TestWhoeverComesUpFindsWhatWasSureAndClearsAllElse(t *testing.T) {
	r := rand.New(rand.NewSource(93))
	seen := map[int64]int{}
	twice, items := 0, 0
	for range 10000 {
		words := anyWords(r)
		acts := checkMount(t, words)
		seen[acts.Code]++
		if acts.Code != 0 {
			continue
		}
		got := impl.MountWords(words).Words
		before, after := impl.LiveOf(words), impl.LiveOf(got)
		isSame := after.Code == 0 && after.Clock == before.Clock && len(after.Dead) == 0 &&
			sameVersions(after.Nodes, before.Nodes) && sameVersions(after.Datas, before.Datas)
		if !isSame {
			t.Fatalf("what was sure was %+v, and is %+v", before, after)
		}
		checkIsClean(t, "it has come up", got)
		checkMountActs(t, "it has come up", got, impl.Act{Kind: impl.ActFence})
		checkSameTree(t, "it has come up", words, got)
		items += len(impl.TreeOf(got).Items)
		if slices.Contains(acts.Acts[:len(acts.Acts)-1], impl.Act{Kind: impl.ActFence}) {
			twice++
		}
	}
	checkSeen(t, seen, impl.OK, impl.ErrForm, impl.ErrRange, impl.ErrTaken, impl.ErrState)
	if twice < 1000 || items < 3000 {
		t.Errorf("%d times there was something gone and sure, and there were %d items", twice, items)
	}
}

func TestWhateverCrashesWhileItComesUpItFindsTheSameInTheEnd(t *testing.T) {
	r := rand.New(rand.NewSource(94))
	single, chained := map[int64]int{}, map[int64]int{}
	for range 4000 {
		words := anyWords(r)
		acts := len(impl.MountActs(words).Acts)
		for range 3 {
			got := checkMountCrash(t, words, int64(r.Intn(acts+3)-1), someFates(r))
			single[got.Code]++
			if got.Code == 0 {
				checkSameTree(t, "a crash", words, got.Words)
			}
		}
		cuts := make([]int64, r.Intn(8))
		for i := range cuts {
			cuts[i] = r.Int63n(int64(2*acts + 2))
			if r.Intn(40) == 0 {
				cuts[i] = -1 - r.Int63n(100)
			}
		}
		got := checkChain(t, words, cuts, someFates(r))
		chained[got.Code]++
		if got.Code == 0 {
			checkIsClean(t, "a chain", got.Words)
			checkSameTree(t, "a chain", words, got.Words)
			checkLeft(t, "a chain", got, impl.MountWords(words))
		}
	}
	for _, seen := range []map[int64]int{single, chained} {
		checkSeen(t, seen, impl.OK, impl.ErrRange, impl.ErrTaken, impl.ErrState)
	}
	checkSeen(t, chained, impl.ErrMany)
}

// eachFates: all fates of so many cells.
func eachFates(cells int) [][]int64 {
	all := [][]int64{nil}
	for range cells {
		var longer [][]int64
		for _, fates := range all {
			longer = append(longer, append(slices.Clone(fates), 0), append(slices.Clone(fates), 1))
		}
		all = longer
	}
	return all
}

// eachLeft: whatever a crash leaves of a device that comes up with these words, cut anywhere and with any fates, each of it once.
func eachLeft(t *testing.T, words []int64) [][]int64 {
	t.Helper()
	left := map[string][]int64{}
	acts := impl.MountActs(words).Acts
	for cut := range len(acts) + 1 {
		d := actsByRule(impl.Device{Words: words}, acts[:cut]).Device
		for _, fates := range eachFates(len(d.Flights) + len(d.Over)) {
			got := impl.MountCrash(words, int64(cut), fates)
			if got.Code != 0 {
				t.Fatalf("cut behind %d acts by %v it has the code %d", cut, fates, got.Code)
			}
			left[fmt.Sprint(got.Words)] = got.Words
		}
	}
	var all [][]int64
	for _, words := range left {
		all = append(all, words)
	}
	return all
}

func TestEachCrashOfADeviceThatComesUpLeavesWhatWasSure(t *testing.T) {
	// What is gone tells so as long as anything older is left; else that would be there again.
	for what, begun := range map[string][]int64{
		"many dead":         manyDead(),
		"gone twice":        imageOf(9, goneBlock(1, 5), dirBlock(1, 0, "a", 4), goneBlock(1, 3), dirBlock(1, 0, "b", 2), dirBlock(2, 0, "a", 1)),
		"gone with all":     imageOf(9, goneBlock(1, 7), goneBlock(2, 7), dirBlock(2, 0, "d", 1), pieceBlock(1, 0, 3), fileBlock(1, 2, "f", 1, 6)),
		"gone, then again":  imageOf(9, dirBlock(1, 0, "c", 7), goneBlock(1, 6), dirBlock(1, 0, "a", 5), goneBlock(1, 8), dirBlock(1, 0, "z", 9)),
		"an older file":     imageOf(9, fileBlock(1, 0, "c", 1, 7), fileBlock(1, 0, "c", 2, 6), pieceBlock(1, 0, 6), pieceBlock(1, 1, 6), pieceBlock(1, 0, 5)),
		"its name is taken": imageOf(9, goneBlock(1, 4), dirBlock(1, 0, "a", 2), dirBlock(2, 0, "a", 5), goneBlock(3, 7), dirBlock(3, 1, "x", 3)),
	} {
		states := 0
		for _, once := range eachLeft(t, begun) {
			for _, words := range append(eachLeft(t, once), once) {
				checkSameTree(t, what, begun, words)
				checkLeft(t, what, impl.MountWords(words), impl.WordsListResult{Words: swept(begun)})
				states++
			}
		}
		if states < 20 {
			t.Errorf("%s: only %d words were left", what, states)
		}
	}
}

// actsBehind: how many acts are done by so many steps of a mount, behind the one that reads: what is stored is flushed in the same step.
func actsBehind(acts []impl.Act, steps int) int64 {
	done := 0
	for range steps {
		if acts[done].Kind == impl.ActStore {
			done++
		}
		done++
	}
	return int64(done)
}

func TestAnyWorldComesUpByTheseActs(t *testing.T) {
	r := rand.New(rand.NewSource(95))
	steps, dead, twice := 0, 0, 0
	for range 400 {
		asked := anyWorld(r, r.Intn(110))
		down := append(slices.Clone(asked.events), crashEvent(anyFates(r, r.Intn(41))...))
		words := ranWithCodes(t, asked.config, down).Device.Words
		acts := impl.MountActs(words).Acts
		for step := 0; ; step++ {
			s := ranWithCodes(t, asked.config, down, mountSteps(1+step))
			if s.Up {
				checkLeft(t, "it is up", impl.MountWords(words), impl.WordsListResult{Words: s.Device.Words})
				checkItemsResult(t, "it is up", impl.TreeOf(s.Device.Words), impl.ItemsResult{Items: s.Items})
				checkIsClean(t, "it is up", s.Device.Words)
				if actsBehind(acts, step) != int64(len(acts)) {
					t.Fatalf("it is up behind %d steps of %+v", step, acts)
				}
				break
			}
			fates := anyFates(r, r.Intn(6))
			crashed := ranWithCodes(t, asked.config, down, mountSteps(1+step), []impl.Event{crashEvent(fates...)})
			checkLeft(t, "it crashed again", impl.MountCrash(words, actsBehind(acts, step), fates), impl.WordsListResult{Words: crashed.Device.Words})
			steps++
		}
		dead += len(impl.LiveOf(words).Dead)
		if slices.Contains(acts[:len(acts)-1], impl.Act{Kind: impl.ActFence}) {
			twice++
		}
	}
	if steps < 600 || dead < 300 || twice < 10 {
		t.Errorf("there were only %d steps and %d dead lines, and what is gone and sure %d times", steps, dead, twice)
	}
}
