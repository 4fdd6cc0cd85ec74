package tests

import (
	"math/rand"
	"slices"
	"testing"

	"loop.example/g00691/impl"
)

func TestAnyNotesAreAuditedAsTheDocumentTells(t *testing.T) {
	r := rand.New(rand.NewSource(71))
	explained, synced := map[bool]int{}, 0
	for range 2000 {
		notes := anyNotes(r, r.Intn(30))
		explained[checkAudit(t, "any notes", notes, someClocks(r, notes)...)]++
		synced += int(min(impl.SyncedIn(notes).Value, 1))
	}
	if explained[true] < 200 || explained[false] < 800 || synced < 80 {
		t.Errorf("too few were explained, or not, or synced: %v, %d", explained, synced)
	}
}

func TestSpoiltNotesOfAnyWorldAreAuditedAsTheDocumentTells(t *testing.T) {
	r := rand.New(rand.NewSource(72))
	explained, faults := map[bool]int{}, map[int64]int{}
	for range 800 {
		asked := auditWorld(r, r.Intn(150))
		right := ranWithCodes(t, asked.config, asked.events).Notes
		for range 4 {
			notes := spoiltNotes(r, right)
			explained[checkAudit(t, "spoilt notes", notes, someClocks(r, notes)...)]++
			faults[impl.NotesFault(notes)]++
		}
	}
	checkSeen(t, faults, impl.OK, impl.ErrForm, impl.ErrRange, impl.ErrMany, impl.ErrText)
	if explained[true] < 320 || explained[false] < 800 {
		t.Errorf("too few were explained, or not: %v", explained)
	}
}

func TestEachReplyOfAnyWorldIsExplained(t *testing.T) {
	r := rand.New(rand.NewSource(73))
	ups, synced := 0, 0
	for range 800 {
		asked := auditWorld(r, r.Intn(201))
		s := ranWithCodes(t, asked.config, asked.events)
		checkNotesFault(t, "of a world", s.Notes, 0)
		checkIsExplained(t, "of a world", s.Notes, true)
		if s.Up {
			checkItemsResult(t, "of a world", impl.ItemsNow(s.Notes), impl.ItemsResult{Items: s.Items})
		}
		all := impl.DrainWorld(asked.config, asked.events).State
		checkIsExplained(t, "of a world that is drained", all.Notes, true)
		checkItemsResult(t, "of a world that is drained", impl.ItemsNow(all.Notes), impl.ItemsResult{Items: all.Items})
		checkIsExplained(t, "of a world that is settled", impl.SettleWorld(asked.config, asked.events).State.Notes, true)
		for i, n := range all.Notes {
			if n.Kind == impl.NoteUp {
				ups++
				synced += int(min(impl.SyncedIn(all.Notes[:i]).Value, 1))
			}
		}
	}
	if ups < 800 || synced < 60 {
		t.Errorf("it came up only %d times, and only %d times behind a sync that came back", ups, synced)
	}
}

func TestAtEachTimeTheNotesOfAWorldTellWhatThereIs(t *testing.T) {
	r := rand.New(rand.NewSource(74))
	items := 0
	for range 40 {
		asked := auditWorld(r, 100)
		for many, s := range statesOf(t, asked) {
			checkIsExplained(t, "of a world", s.Notes, true)
			if !s.Up {
				continue
			}
			if now := impl.ItemsNow(s.Notes); !sameItemsByRule(now.Items, s.Items) {
				t.Fatalf("behind %d events of %+v there is %+v, and the notes tell %+v", many, asked, s.Items, now)
			}
			items += len(s.Items)
		}
	}
	if items < 2000 {
		t.Errorf("there were only %d items", items)
	}
}

// checkCrashNow: a crash leaves what was done in the epochs that are sure by the clock that it leaves, with all that was synced; it answers that clock, and what is left.
func checkCrashNow(t *testing.T, what string, asked askedWorld, fates []int64) (int64, []impl.Item) {
	t.Helper()
	s := ranWithCodes(t, asked.config, asked.events)
	clock := ranWithCodes(t, asked.config, asked.events, []impl.Event{crashEvent(fates...)}).Device.Words[1]
	if s.Up && clock != s.Now && clock != s.Now-1 {
		t.Fatalf("%s: Now is %d, and the crash leaves the clock %d", what, s.Now, clock)
	}
	left := impl.CrashTree(asked.config, asked.events, fates)
	checkItemsResult(t, what, left, impl.ItemsAfter(s.Notes, clock))
	if synced := impl.SyncedIn(s.Notes); synced.Code != 0 || synced.Value > clock-2 {
		t.Fatalf("%s: by the clock %d that a crash leaves %+v is not sure: %s", what, clock, synced, toldNotes(s.Notes))
	}
	checkIsExplained(t, what, append(s.Notes, again(clock)...), true)
	return clock, left.Items
}

func TestACrashOfAnyWorldLeavesWhatTheNotesTell(t *testing.T) {
	r := rand.New(rand.NewSource(75))
	lost, left, ahead, atTheEdge := 0, 0, 0, 0
	for range 1200 {
		asked := auditWorld(r, r.Intn(190))
		s := ranWithCodes(t, asked.config, asked.events)
		for range 3 {
			clock, items := checkCrashNow(t, "any crash", asked, anyFates(r, r.Intn(41)))
			left += len(items)
			if s.Up && !sameItemsByRule(items, s.Items) {
				lost++
			}
			if s.Up && clock < s.Now {
				ahead++
			}
			if impl.SyncedIn(s.Notes).Value == clock-2 && clock > asked.config.Clock {
				atTheEdge++
			}
		}
	}
	if lost < 600 || left < 1500 || ahead < 150 || atTheEdge < 30 {
		t.Errorf("%d crashes lost something, %d items were left, %d clocks were the one ahead, and %d times all but what was synced was lost", lost, left, ahead, atTheEdge)
	}
}

// syncedWork: what one thread does in each epoch, and another one waits for, until that is sure, and two times more.
func syncedWork() []impl.Event {
	ops := []impl.Op{makeDir("/d"), makeFile("/d/f"), writeOp("/d/f", 0, 1, 2, 3, 4), writeOp("/d/f", 0, 5, 6, 7, 8), moveOp("/d", "/e"), cutOp("/e/f", 0), dropOp("/e/f"), dropOp("/e")}
	var events []impl.Event
	for i, o := range ops {
		events = append(events, doing(0, o)...)
		if i%3 == 0 {
			events = append(events, beginEvent(1, syncOp()))
		}
		events = append(events, daemonSteps(4)...)
		events = append(events, pickEvent(1))
		events = append(events, daemonSteps(5)...)
		events = append(events, pickEvent(1))
	}
	return append(events, daemonSteps(20)...)
}

func TestACrashAtEachStepLeavesWhatTheNotesTell(t *testing.T) {
	c := impl.Config{Lines: 12, Threads: 2, Clock: 2}
	patterns := [][]int64{nil, {1}, {0, 1}, {1, 0}, {1, 1, 0}, {0, 0, 1}, {1, 1, 1, 1, 1, 1, 1, 1, 0, 0, 0, 0, 0, 0, 0, 0}, {0, 0, 0, 0, 0, 0, 0, 0, 1, 1, 1, 1, 1, 1, 1, 1}}
	events := syncedWork()
	synced := map[int64]int{}
	for many := range len(events) + 1 {
		asked := askedWorld{c, events[:many]}
		for _, fates := range patterns {
			checkCrashNow(t, "each step", asked, fates)
		}
		s := ranWithCodes(t, c, asked.events)
		synced[impl.SyncedIn(s.Notes).Value]++
		checkItemsResult(t, "each step", impl.ItemsNow(s.Notes), impl.ItemsResult{Items: s.Items})
	}
	if len(synced) < 4 {
		t.Errorf("the epochs that were synced are %v", synced)
	}
}

func TestACrashAtEachStepOfComingUpLeavesWhatTheNotesTell(t *testing.T) {
	c := impl.Config{Lines: 12, Threads: 2, Clock: 2}
	work := syncedWork()[:50]
	for _, first := range [][]int64{nil, {1}, {0, 1}, {1, 1, 0}} {
		down := slices.Concat(work, []impl.Event{crashEvent(first...)})
		whole := impl.CrashTree(c, work, first)
		for steps := range 20 {
			asked := askedWorld{c, slices.Concat(down, mountSteps(steps))}
			s := ranWithCodes(t, c, asked.events)
			for _, fates := range [][]int64{nil, {1}, {0, 1}, {1, 0}} {
				// Of an era that has not ended yet a second crash leaves the same; of one that has just begun there is nothing else.
				_, items := checkCrashNow(t, "a second crash", asked, fates)
				checkItemsResult(t, "a second crash", impl.ItemsResult{Items: items}, whole)
			}
			checkIsExplained(t, "a second crash", s.Notes, true)
			if s.Up {
				checkItemsResult(t, "up again", impl.ItemsNow(s.Notes), whole)
			}
		}
	}
}

// checkEndsOfBegins: each begin that no crash took has just one end, which stands behind it, ahead of the next begin of its thread; and each end has its begin.
func checkEndsOfBegins(t *testing.T, notes []impl.Note) (ended int, taken int) {
	t.Helper()
	open := map[int64]impl.Op{}
	for _, n := range notes {
		begun, is := open[n.Who]
		switch n.Kind {
		case impl.NoteBegin:
			if is {
				t.Fatalf("the thread %d begins twice: %s", n.Who, toldNotes(notes))
			}
			open[n.Who] = n.Op
		case impl.NoteEnd:
			if !is || !sameOpByRule(begun, n.Op) {
				t.Fatalf("%+v is no end of %+v: %s", n, begun, toldNotes(notes))
			}
			delete(open, n.Who)
			ended++
		case impl.NoteCrash:
			taken += len(open)
			clear(open)
		}
	}
	if len(open) > 0 {
		t.Fatalf("these have no end: %+v, %s", open, toldNotes(notes))
	}
	return ended, taken
}

func TestEachBeginOfADrainedWorldHasJustOneEnd(t *testing.T) {
	r := rand.New(rand.NewSource(76))
	ended, taken, behind := 0, 0, 0
	for range 400 {
		asked := auditWorld(r, r.Intn(201))
		all := impl.DrainWorld(asked.config, asked.events)
		if all.Rounds >= impl.MaxRounds {
			t.Fatalf("it took %d rounds: %+v", all.Rounds, asked)
		}
		ends, crashed := checkEndsOfBegins(t, all.State.Notes)
		ended, taken = ended+ends, taken+crashed
		behind += len(all.State.Notes) - len(ranWithCodes(t, asked.config, asked.events).Notes)
	}
	if ended < 2000 || taken < 50 || behind < 200 {
		t.Errorf("only %d ended, %d of them behind the events, and crashes took %d", ended, behind, taken)
	}
}
