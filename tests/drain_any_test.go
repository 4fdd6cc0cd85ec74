package tests

import (
	"math/rand"
	"slices"
	"testing"

	"loop.example/g00691/impl"
)

// anyDrain: any world, often with as many busy as there can be, and now and then one that is down.
func anyDrain(r *rand.Rand, many int) askedWorld {
	asked := anyWorld(r, many)
	w, _ := behindByRule(asked.config, asked.events)
	for who := range asked.config.Threads {
		if w.threads[who].busy || r.Intn(3) == 0 {
			continue
		}
		o := syncOp()
		if r.Intn(2) == 0 {
			o = workOp(r, w.items())
		}
		asked.events = append(asked.events, beginEvent(who, o))
	}
	if r.Intn(8) == 0 {
		asked.events = append(asked.events, crashEvent(anyFates(r, r.Intn(41))...))
		asked.events = append(asked.events, mountSteps(r.Intn(4))...)
	}
	if r.Intn(4) == 0 {
		asked.events = append(asked.events, daemonSteps(r.Intn(4))...)
	}
	return asked
}

func TestAnyWorldIsDrainedAsTheDocumentTells(t *testing.T) {
	r := rand.New(rand.NewSource(61))
	seen := map[int64]int{}
	for range 400 {
		asked := anyDrain(r, r.Intn(185))
		got := checkDrain(t, asked)
		if got.Rounds < impl.MaxRounds {
			checkNobodyBusy(t, "drained", got.State)
		}
		seen[min(got.Rounds, 20)]++
	}
	// There were such with no round, with one, with a few, and with many.
	if seen[0] < 20 || seen[1] < 20 || seen[20] < 5 || len(seen) < 15 {
		t.Errorf("too few kinds of worlds were drained: %v", seen)
	}
}

func TestAnyWorldIsSettledAsTheDocumentTells(t *testing.T) {
	r := rand.New(rand.NewSource(62))
	seen := map[int64]int{}
	items := 0
	for range 400 {
		asked := anyDrain(r, r.Intn(185))
		got := checkSettle(t, asked)
		drained := impl.DrainWorld(asked.config, asked.events).State
		checkSameBeginning(t, "settled", drained, got.State)
		behind := got.State.Codes[len(drained.Codes):]
		code := behind[len(behind)-1]
		seen[code]++
		if slices.Contains(behind[:len(behind)-1], impl.ErrState) || code != 0 && got.State.Now != 9999 {
			t.Fatalf("the codes of settling are %v, and Now is %d", behind, got.State.Now)
		}
		if code == 0 {
			checkNothingOnItsWay(t, "settled", got.State)
		}
		items += len(got.State.Items)
	}
	checkSeen(t, seen, impl.OK, impl.ErrState)
	if items < 200 {
		t.Errorf("there were only %d items", items)
	}
}

func TestTheTreeOfAnyWorldIsToldAsTheDocumentTells(t *testing.T) {
	r := rand.New(rand.NewSource(63))
	seen := map[int64]int{}
	items := 0
	for range 400 {
		asked := anyDrain(r, r.Intn(185))
		for range 3 {
			fates := anyFates(r, r.Intn(60))
			if r.Intn(8) == 0 {
				fates = append(fates, r.Int63n(4)-1)
			}
			got := checkCrashTree(t, asked, fates)
			seen[got.Code]++
			items += len(got.Items)
		}
	}
	checkSeen(t, seen, impl.OK, impl.ErrRange)
	if items < 300 {
		t.Errorf("there were only %d items", items)
	}
}

// spelled: events, and behind them those by which they are drained, each told by the state that RunWorld answers by then, and how many rounds these are.
// It stops as soon as there are more than RunWorld takes.
func spelled(t *testing.T, asked askedWorld) ([]impl.Event, int64) {
	t.Helper()
	events := slices.Clone(asked.events)
	for len(events) <= impl.MaxEvents && !ranWithCodes(t, asked.config, events).Up {
		events = append(events, mountEvent())
	}
	rounds := int64(0)
	for len(events) <= impl.MaxEvents {
		busy := impl.BusyIn(ranWithCodes(t, asked.config, events)).List
		if len(busy) == 0 {
			break
		}
		for _, who := range busy {
			events = append(events, pickEvent(who))
		}
		events = append(events, daemonEvent())
		rounds++
	}
	return events, rounds
}

func TestDrainingIsWhatRunWorldTellsOfTheSameEvents(t *testing.T) {
	r := rand.New(rand.NewSource(64))
	told, rounds := 0, int64(0)
	for range 150 {
		asked := anyDrain(r, r.Intn(120))
		all, many := spelled(t, asked)
		if len(all) > impl.MaxEvents {
			continue
		}
		want := impl.DrainResult{State: ranWithCodes(t, asked.config, all), Rounds: many}
		checkDrainResult(t, "spelled", impl.DrainWorld(asked.config, asked.events), want)
		// What is drained stays as it is by another draining.
		want.Rounds = 0
		checkDrainResult(t, "drained", impl.DrainWorld(asked.config, all), want)
		told++
		rounds += many
	}
	if told < 100 || rounds < 300 {
		t.Errorf("only %d worlds, with %d rounds, were told", told, rounds)
	}
}

func TestTheTreeIsWhatIsThereWhereItComesUpBehindSuchACrash(t *testing.T) {
	r := rand.New(rand.NewSource(65))
	items := 0
	for range 200 {
		asked := anyDrain(r, r.Intn(120))
		fates := anyFates(r, r.Intn(41))
		up := impl.DrainWorld(asked.config, append(asked.events, crashEvent(fates...)))
		if up.Code != 0 || !up.State.Up || up.Rounds != 0 {
			t.Fatalf("it does not come up: %+v", up)
		}
		got := impl.CrashTree(asked.config, asked.events, fates)
		checkItemsResult(t, "the tree", got, impl.ItemsResult{Items: up.State.Items})
		checkItemsResult(t, "the tree by the notes", got, impl.ItemsResult{Items: itemsByNotes(up.State.Notes)})
		items += len(got.Items)
	}
	if items < 50 {
		t.Errorf("there were only %d items", items)
	}
}

func TestWhoIsBusyAtTheEndOfAnyWorldComesToAnEnd(t *testing.T) {
	r := rand.New(rand.NewSource(66))
	synced, refused := 0, 0
	for range 400 {
		asked := anyDrain(r, r.Intn(185))
		// So near the end of all epochs that it comes while these events are, or behind them.
		asked.config.Clock = 9999 - r.Int63n(8)
		before := ranWithCodes(t, asked.config, asked.events)
		got := checkDrain(t, asked)
		checkNobodyBusy(t, "the end", got.State)
		if before.Up && before.Now > 9997 && !sameItemsByRule(before.Items, got.State.Items) {
			t.Fatalf("at the end of all epochs something is changed: %+v, %+v", before.Items, got.State.Items)
		}
		for _, n := range got.State.Notes[len(before.Notes):] {
			if n.Kind != impl.NoteEnd {
				continue
			}
			if n.Op.Kind == impl.OpSync {
				synced++
			}
			if n.Op.Kind <= impl.OpMove && before.Now > 9997 {
				refused++
				if n.Reply.Code != impl.ErrState {
					t.Fatalf("at the end of all epochs a mutation ends by %+v", n)
				}
			}
		}
	}
	if synced < 50 || refused < 20 {
		t.Errorf("only %d waited, and %d were refused", synced, refused)
	}
}
