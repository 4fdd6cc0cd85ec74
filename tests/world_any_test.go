package tests

import (
	"math/rand"
	"slices"
	"testing"

	"loop.example/g00691/impl"
)

func TestAnyWorldIsAnsweredAsTheDocumentTells(t *testing.T) {
	r := rand.New(rand.NewSource(54))
	// seen: how often each kind of event had which code; ended: how often each kind of op ended with which.
	seen, ended := map[int64]map[int64]int{}, map[int64]map[int64]int{}
	for kind := range int64(9) {
		seen[kind], ended[kind] = map[int64]int{}, map[int64]int{}
	}
	for range 1500 {
		asked := anyWorld(r, 200)
		s := checkWorld(t, asked.config, asked.events)
		checkWorld(t, asked.config, asked.events[:r.Intn(200)])
		for i, e := range asked.events {
			if e.Kind >= 0 && e.Kind <= 8 {
				seen[e.Kind][s.Codes[i]]++
			}
		}
		for _, n := range s.Notes {
			if n.Kind == impl.NoteEnd {
				ended[n.Op.Kind][n.Reply.Code]++
			}
		}
	}
	checkSeen(t, seen[impl.EvBegin], impl.OK, impl.ErrForm, impl.ErrRange, impl.ErrMany, impl.ErrText, impl.ErrState)
	checkSeen(t, seen[impl.EvPick], impl.OK, impl.ErrForm, impl.ErrRange, impl.ErrState)
	checkSeen(t, seen[impl.EvDaemon], impl.OK, impl.ErrForm, impl.ErrState)
	checkSeen(t, seen[impl.EvEvict], impl.OK, impl.ErrForm, impl.ErrRange, impl.ErrNone)
	checkSeen(t, seen[impl.EvCrash], impl.OK, impl.ErrForm, impl.ErrRange, impl.ErrMany)
	checkSeen(t, seen[impl.EvMount], impl.OK, impl.ErrForm, impl.ErrState)
	checkSeen(t, ended[impl.OpMake], impl.OK, impl.ErrForm, impl.ErrNone, impl.ErrTaken, impl.ErrFull, impl.ErrState)
	checkSeen(t, ended[impl.OpWrite], impl.OK, impl.ErrNone, impl.ErrRange, impl.ErrFull, impl.ErrState)
	checkSeen(t, ended[impl.OpCut], impl.OK, impl.ErrNone, impl.ErrRange, impl.ErrFull, impl.ErrState)
	checkSeen(t, ended[impl.OpDrop], impl.OK, impl.ErrNone, impl.ErrFull, impl.ErrState)
	checkSeen(t, ended[impl.OpMove], impl.OK, impl.ErrForm, impl.ErrNone, impl.ErrTaken, impl.ErrFull, impl.ErrState)
	checkSeen(t, ended[impl.OpRead], impl.OK, impl.ErrNone)
	checkSeen(t, ended[impl.OpList], impl.OK, impl.ErrForm, impl.ErrNone)
	checkSeen(t, ended[impl.OpSync], impl.OK)
}

// statesOf: what there is ahead of all events, and behind each of them.
func statesOf(t *testing.T, asked askedWorld) []impl.State {
	t.Helper()
	var states []impl.State
	for many := range len(asked.events) + 1 {
		states = append(states, ranWithCodes(t, asked.config, asked.events[:many]))
	}
	return states
}

// checkBeginnings: what was done does not hang on what comes later.
func checkBeginnings(t *testing.T, states []impl.State) {
	t.Helper()
	all := states[len(states)-1]
	for many, s := range states {
		isBeginning := len(s.Notes) <= len(all.Notes) && slices.Equal(s.Codes, all.Codes[:many]) && impl.SameNotes(s.Notes, all.Notes[:len(s.Notes)])
		if !isBeginning {
			t.Fatalf("the codes and notes of %d events are no beginning of those of all: %+v, %+v", many, s, all)
		}
	}
}

// checkClocksSeen: while it is up Sure is Now or one less, and the clock that is kept is one that Now once was.
func checkClocksSeen(t *testing.T, states []impl.State) {
	t.Helper()
	var seen []int64
	for many, s := range states {
		if s.Up {
			seen = append(seen, s.Now)
		}
		if s.Up && s.Sure != s.Now && s.Sure != s.Now-1 {
			t.Fatalf("behind %d events Now is %d and Sure is %d", many, s.Now, s.Sure)
		}
		if !slices.Contains(seen, s.Device.Words[1]) {
			t.Fatalf("behind %d events the clock that is kept is %d; Now was %v", many, s.Device.Words[1], seen)
		}
		if s.Up && s.Device.Words[1] != s.Now && s.Device.Words[1] != s.Sure {
			t.Fatalf("behind %d events Now is %d, Sure is %d, and the clock that is kept is %d", many, s.Now, s.Sure, s.Device.Words[1])
		}
	}
}

// checkPicks: a mutation that has begun ends within seven picks of its thread; it answers how many the longest one took.
func checkPicks(t *testing.T, asked askedWorld, states []impl.State) int {
	t.Helper()
	picks, most := make([]int, asked.config.Threads), 0
	for i, e := range asked.events {
		after := states[i+1]
		if after.Codes[i] != 0 {
			continue
		}
		switch e.Kind {
		case impl.EvBegin:
			picks[e.Who] = 0
		case impl.EvPick:
			picks[e.Who]++
			most = max(most, picks[e.Who]*mutates(after, e.Who))
			if picks[e.Who]*mutates(after, e.Who) >= 7 && after.Busy[e.Who] {
				t.Fatalf("behind %d picks a mutation has not ended: %+v", picks[e.Who], asked)
			}
		}
	}
	return most
}

// mutates: 1, if the op that the thread began last is a mutation.
func mutates(s impl.State, who int64) int {
	for _, n := range slices.Backward(s.Notes) {
		if n.Kind == impl.NoteBegin && n.Who == who {
			if impl.IsMutation(n.Op) {
				return 1
			}
			return 0
		}
	}
	return 0
}

func TestWhatIsPromisedOfAnyWorld(t *testing.T) {
	r := rand.New(rand.NewSource(55))
	most := 0
	for range 120 {
		asked := anyWorld(r, 120)
		states := statesOf(t, asked)
		checkBeginnings(t, states)
		checkClocksSeen(t, states)
		most = max(most, checkPicks(t, asked, states))
	}
	if most < 4 {
		t.Errorf("no mutation took more than %d picks", most)
	}
}

func TestTheLongestMutationEndsWithinSevenPicks(t *testing.T) {
	// The ring is full, and a file of four pieces is dropped, which is five changes.
	c := impl.Config{Lines: 20, Threads: 1, Clock: 2}
	events := slices.Concat(fullRing(), doing(0, writeOp("/a", 3, 0, 0, 0, 4)), []impl.Event{pickEvent(0), pickEvent(0)})
	checkEnded(t, "four pieces", ran(t, c, events), 0, writeOp("/a", 3, 0, 0, 0, 4), 2)
	for _, o := range []impl.Op{dropOp("/a"), cutOp("/a", 0)} {
		asked := askedWorld{c, slices.Concat(events, []impl.Event{beginEvent(0, o)}, slices.Repeat([]impl.Event{pickEvent(0)}, 6))}
		states := statesOf(t, asked)
		if most := checkPicks(t, asked, states); most != 6 {
			t.Errorf("%+v took %d picks", o, most)
		}
		checkEnded(t, "the sixth pick", states[len(states)-1], 0, o, 2)
		if !states[len(states)-2].Busy[0] {
			t.Error("it had ended by the fifth pick")
		}
	}
}

func TestEventsWithACodeMayBeLeftOutOfAnyWorld(t *testing.T) {
	r := rand.New(rand.NewSource(56))
	left := 0
	for range 300 {
		asked := anyWorld(r, 200)
		all := ranWithCodes(t, asked.config, asked.events)
		var rest []impl.Event
		for i, e := range asked.events {
			if all.Codes[i] == 0 {
				rest = append(rest, e)
			}
		}
		left += len(asked.events) - len(rest)
		s := ran(t, asked.config, rest)
		checkSameButCodes(t, "without events that have a code", all, s)
	}
	if left < 1000 {
		t.Errorf("only %d events had a code", left)
	}
}

func TestWhatThereIsIsWhatTheDeviceTellsLater(t *testing.T) {
	r := rand.New(rand.NewSource(57))
	told := 0
	for range 200 {
		asked := anyWorld(r, 120)
		if asked.config.Clock > 5000 {
			continue
		}
		before := ranWithCodes(t, asked.config, asked.events)
		if !before.Up {
			continue
		}
		events := asked.events
		for range 70 {
			events = append(events, daemonEvent())
		}
		s := ranWithCodes(t, asked.config, events)
		if s.Now < before.Now+4 {
			continue
		}
		tree := impl.TreeOf(s.Device.Words)
		checkItemsResult(t, "the tree that is kept", tree, impl.ItemsResult{Items: before.Items})
		told++
	}
	if told < 50 {
		t.Errorf("only %d worlds told something", told)
	}
}

// itemsByNotes: what there is behind the notes, by the mutations that ended, and by those of the epochs that were sure where it came up.
func itemsByNotes(notes []impl.Note) []impl.Item {
	var first, items []impl.Item
	var era []impl.Note
	for _, n := range notes {
		if n.Kind == impl.NoteEnd && n.Op.Kind <= impl.OpMove && n.Reply.Code == 0 {
			era = append(era, n)
			items = doByRule(items, n.Op).Items
		}
		if n.Kind == impl.NoteUp {
			items = first
			for _, done := range era {
				if done.Epoch <= n.Epoch-2 {
					items = doByRule(items, done.Op).Items
				}
			}
			first, era = items, nil
		}
	}
	return items
}

func TestACrashOfAnyWorldLeavesWhatWasDoneInTheEpochsThatAreSure(t *testing.T) {
	r := rand.New(rand.NewSource(58))
	left := 0
	for range 300 {
		asked := anyWorld(r, 110)
		events := slices.Concat(asked.events, []impl.Event{crashEvent(anyFates(r, r.Intn(41))...)}, mountSteps(89))
		s := ranWithCodes(t, asked.config, events)
		if !s.Up {
			t.Fatalf("it does not come up: %+v", asked)
		}
		checkStateItems(t, "what there is", s, itemsByNotes(s.Notes)...)
		// Nothing that is kept is left over: each line is free or has what there is.
		live := impl.LiveOf(s.Device.Words)
		if live.Code != 0 || len(live.Dead) > 0 {
			t.Fatalf("LiveOf has the code %d, and dead are %v", live.Code, live.Dead)
		}
		checkItemsResult(t, "the tree that is kept", impl.TreeOf(s.Device.Words), impl.ItemsResult{Items: s.Items})
		if free := impl.FreeIn(s.Device.Words).List; int64(len(free)) != s.Free || s.Now != live.Clock {
			t.Fatalf("%d lines are free, and Now is %d: %+v", s.Free, s.Now, s.Device)
		}
		left += len(s.Items)
	}
	if left < 100 {
		t.Errorf("only %d items were left", left)
	}
}
