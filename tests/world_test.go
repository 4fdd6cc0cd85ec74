package tests

import (
	"slices"
	"testing"

	"loop.example/g00691/impl"
)

func TestTheWorldAtFirst(t *testing.T) {
	for _, c := range []impl.Config{{Lines: 4, Threads: 1, Clock: 2}, {Lines: 41, Threads: 4, Clock: 9999}, {Lines: 12, Threads: 3, Clock: 700}} {
		s := ran(t, c)
		want := impl.State{Up: true, Now: c.Clock, Sure: c.Clock, Free: c.Lines - 1, Busy: make([]bool, c.Threads), Device: impl.Device{Words: emptyImage(int(c.Lines), c.Clock)}}
		checkStateResult(t, "at first", impl.StateResult{State: s}, impl.StateResult{State: want})
	}
}

func TestEachCodeOfTheConfigIsTheRuns(t *testing.T) {
	codes := map[impl.Config]int64{
		{}:                                   impl.ErrMany,
		{Lines: 3, Threads: 1, Clock: 2}:     impl.ErrMany,
		{Lines: 42, Threads: 1, Clock: 2}:    impl.ErrMany,
		{Lines: 4, Threads: 0, Clock: 2}:     impl.ErrRange,
		{Lines: 4, Threads: 5, Clock: 2}:     impl.ErrRange,
		{Lines: 4, Threads: 1, Clock: 1}:     impl.ErrRange,
		{Lines: 4, Threads: 1, Clock: 10000}: impl.ErrRange,
	}
	for c, code := range codes {
		for _, many := range []int{0, 1, 200, 201} {
			checkStateResult(t, "a config with a fault", impl.RunWorld(c, daemonSteps(many)), impl.StateResult{Code: code})
		}
	}
}

func TestHowManyEventsThereMayBe(t *testing.T) {
	c := smallConfig()
	if s := ran(t, c, daemonSteps(200)); len(s.Codes) != 200 || s.Now != 2+33 {
		t.Errorf("behind 200 daemon steps there are %d codes, and Now is %d", len(s.Codes), s.Now)
	}
	for _, many := range []int{201, 202, 1000} {
		checkStateResult(t, "too many events", impl.RunWorld(c, daemonSteps(many)), impl.StateResult{Code: impl.ErrMany})
		checkStateResult(t, "too many events with a fault", impl.RunWorld(c, make([]impl.Event, many)), impl.StateResult{Code: impl.ErrMany})
	}
	// Two hundred events with a fault are no fault of the run.
	s := ranWithCodes(t, c, make([]impl.Event, 200))
	if !slices.Equal(s.Codes, slices.Repeat([]int64{impl.ErrForm}, 200)) {
		t.Errorf("the codes are %v", s.Codes)
	}
}

// differentWorlds: events that lead to worlds of many kinds: up and busy, in each phase of the daemon, down, and on the way up.
func differentWorlds() map[string][]impl.Event {
	c := smallConfig()
	busy := slices.Concat(doing(0, makeFile("/a"), writeOp("/a", 0, 1, 2, 3, 4)), []impl.Event{beginEvent(1, syncOp())})
	dropped := append(throughRounds(c, doing(0, makeFile("/a")), 2), doing(0, dropOp("/a"), makeFile("/b"))...)
	all := map[string][]impl.Event{
		"nothing":          nil,
		"busy":             busy,
		"dropped":          dropped,
		"down":             append(slices.Clone(busy), crashEvent(1)),
		"read":             append(slices.Clone(busy), crashEvent(1), mountEvent()),
		"on the way up":    append(slices.Clone(busy), crashEvent(1), mountEvent(), mountEvent()),
		"up again":         append(slices.Clone(busy), crashEvent(1), mountEvent(), mountEvent(), mountEvent(), mountEvent()),
		"down from a drop": append(slices.Clone(dropped), crashEvent(0, 1)),
	}
	for steps := range 12 {
		all["daemon "+string(rune('a'+steps))] = append(slices.Clone(busy), daemonSteps(steps+1)...)
		all["dropped and daemon "+string(rune('a'+steps))] = append(throughRounds(c, dropped, 1), daemonSteps(steps+1)...)
	}
	return all
}

// wrongEvents: events of which each has its code in any world of smallConfig.
func wrongEvents() map[int64][]impl.Event {
	wrong := map[int64][]impl.Event{
		impl.ErrForm: {{}, {Kind: 7}, {Kind: -1}, {Kind: impl.EvDaemon, Who: 1}, {Kind: impl.EvMount, At: 1}, {Kind: impl.EvPick, Who: 9, At: 1}, {Kind: impl.EvCrash, Op: syncOp()}, {Kind: impl.EvEvict, Fates: []int64{1}}},
		impl.ErrRange: {
			pickEvent(-1), pickEvent(4), pickEvent(2), pickEvent(3), beginEvent(2, syncOp()), beginEvent(3, makeFile("/x")), beginEvent(9, impl.Op{}),
			evictEvent(-1), evictEvent(96), evictEvent(327), evictEvent(328), crashEvent(2), crashEvent(0, -1),
		},
		impl.ErrMany: {crashEvent(make([]int64, 41)...)},
	}
	for code, ops := range faultyOps() {
		for _, o := range ops {
			// The op is asked ahead of whether there is such a thread, and of whether it is busy.
			wrong[code] = append(wrong[code], beginEvent(0, o), beginEvent(1, o), beginEvent(3, o))
		}
	}
	return wrong
}

func TestEachCodeOfAnEventIsAskedInOrder(t *testing.T) {
	c := smallConfig()
	for what, events := range differentWorlds() {
		for code, wrong := range wrongEvents() {
			for _, e := range wrong {
				s := ranWithCodes(t, c, events, []impl.Event{e})
				checkCodes(t, what, s, code)
			}
		}
	}
}

func TestAnEventThatDoesNotFitToWhetherItIsUp(t *testing.T) {
	c := smallConfig()
	for what, events := range differentWorlds() {
		if ran(t, c, events).Up {
			checkCodes(t, what, ranWithCodes(t, c, events, mountSteps(2)), impl.ErrState, impl.ErrState)
			continue
		}
		for _, e := range []impl.Event{beginEvent(0, syncOp()), beginEvent(1, makeFile("/x")), pickEvent(0), pickEvent(1), daemonEvent()} {
			checkCodes(t, what, ranWithCodes(t, c, events, []impl.Event{e}), impl.ErrState)
		}
		// Whether there is such a thread is asked ahead of it.
		checkCodes(t, what, ranWithCodes(t, c, events, []impl.Event{pickEvent(2), beginEvent(2, syncOp())}), impl.ErrRange, impl.ErrRange)
		checkCodes(t, what, ran(t, c, events, []impl.Event{crashEvent(), mountEvent()}), 0, 0)
	}
}

// checkTurnsNothing: the world goes on behind an event with a code as if it had not been told.
func checkTurnsNothing(t *testing.T, what string, events []impl.Event, e impl.Event, rest []impl.Event) {
	t.Helper()
	c := smallConfig()
	without := ranWithCodes(t, c, events, rest)
	with := ranWithCodes(t, c, events, []impl.Event{e}, rest)
	if with.Codes[len(events)] == 0 {
		t.Fatalf("%s: the event %+v has no code", what, e)
	}
	with.Codes = slices.Delete(with.Codes, len(events), len(events)+1)
	checkStateResult(t, what, impl.StateResult{State: with}, impl.StateResult{State: without})
}

func TestAnEventWithACodeTurnsNothing(t *testing.T) {
	rests := [][]impl.Event{
		nil,
		slices.Concat([]impl.Event{pickEvent(1)}, doing(0, makeFile("/later"), readOp("/a")), daemonSteps(9), doing(0, dropOp("/later")), daemonSteps(20)),
		slices.Concat([]impl.Event{crashEvent(1, 0, 1)}, mountSteps(9), doing(1, makeDir("/up"), listOp("/"))),
		slices.Concat(mountSteps(9), doing(1, makeDir("/up"), listOp("/")), daemonSteps(9)),
	}
	for what, events := range differentWorlds() {
		isUp := ran(t, smallConfig(), events).Up
		for _, rest := range rests {
			for _, wrong := range wrongEvents() {
				for _, e := range wrong {
					checkTurnsNothing(t, what, events, e, rest)
				}
			}
			if isUp {
				checkTurnsNothing(t, what, events, mountEvent(), rest)
			} else {
				for _, e := range []impl.Event{beginEvent(0, makeFile("/x")), pickEvent(0), daemonEvent()} {
					checkTurnsNothing(t, what, events, e, rest)
				}
			}
		}
	}
	checkTurnsNothing(t, "busy", differentWorlds()["busy"], beginEvent(1, makeFile("/x")), rests[1])
	checkTurnsNothing(t, "not busy", differentWorlds()["busy"], pickEvent(0), rests[1])
	checkTurnsNothing(t, "no cell", differentWorlds()["busy"], evictEvent(31), rests[1])
}

func TestBeginningMakesAThreadBusyAndANote(t *testing.T) {
	c := impl.Config{Lines: 6, Threads: 4, Clock: 7}
	for _, o := range oneOfEachKind() {
		s := ran(t, c, []impl.Event{beginEvent(2, o)})
		checkLastNote(t, "begun", s, impl.Note{Kind: impl.NoteBegin, Who: 2, Epoch: 7, Op: o})
		want := ran(t, c)
		want.Busy[2], want.Codes, want.Notes = true, []int64{0}, s.Notes
		checkStateResult(t, "begun", impl.StateResult{State: s}, impl.StateResult{State: want})
		if len(s.Notes) != 1 {
			t.Errorf("there are %d notes", len(s.Notes))
		}
	}
	// Its Epoch is Now, which is ahead of Sure while the daemon tells.
	s := ran(t, c, daemonSteps(3), []impl.Event{beginEvent(0, syncOp())})
	checkClocks(t, "ticked", s, 8, 7, 7)
	checkLastNote(t, "begun while it tells", s, impl.Note{Kind: impl.NoteBegin, Epoch: 8, Op: syncOp()})
}

func TestAThreadThatIsBusyCannotBegin(t *testing.T) {
	c := smallConfig()
	begun := []impl.Event{beginEvent(0, makeFile("/a"))}
	for _, o := range oneOfEachKind() {
		checkCodes(t, "busy", ranWithCodes(t, c, begun, []impl.Event{beginEvent(0, o), beginEvent(1, o)}), impl.ErrState, 0)
	}
	// It wants what it wanted first.
	s := ranWithCodes(t, c, begun, []impl.Event{beginEvent(0, makeFile("/b")), pickEvent(0), beginEvent(0, makeFile("/b"))})
	checkCodes(t, "busy", s, 0, impl.ErrState, 0, 0)
	checkStateItems(t, "busy", s, impl.Item{Path: "/a"})
}

func TestAThreadThatIsNotBusyCannotBePicked(t *testing.T) {
	c := smallConfig()
	checkCodes(t, "at first", ranWithCodes(t, c, []impl.Event{pickEvent(0), pickEvent(1)}), impl.ErrState, impl.ErrState)
	for _, o := range oneOfEachKind() {
		if o.Kind == impl.OpSync {
			continue
		}
		s := ranWithCodes(t, c, doing(0, o), []impl.Event{pickEvent(0), beginEvent(1, o), pickEvent(0)})
		checkCodes(t, "ended", s, 0, 0, impl.ErrState, 0, impl.ErrState)
		if !slices.Equal(s.Busy, []bool{false, true}) || len(s.Notes) != 3 {
			t.Errorf("busy are %v, and there are %d notes", s.Busy, len(s.Notes))
		}
	}
}

// synced: whether the thread 0, which waits behind these events, ends its sync by a pick.
func synced(t *testing.T, c impl.Config, parts ...[]impl.Event) bool {
	t.Helper()
	before, after := ran(t, c, parts...), ran(t, c, append(parts, []impl.Event{pickEvent(0)})...)
	if !before.Busy[0] {
		t.Fatal("nobody waits")
	}
	if after.Busy[0] {
		// A pick that does not end it turns nothing.
		before.Codes = append(before.Codes, 0)
		checkStateResult(t, "it waits", impl.StateResult{State: after}, impl.StateResult{State: before})
		return false
	}
	checkReply(t, "it ends", after, syncOp(), impl.Reply{})
	return true
}

func TestASyncWaitsUntilSureIsItsAim(t *testing.T) {
	c := impl.Config{Lines: 4, Threads: 2, Clock: 5}
	begun := []impl.Event{beginEvent(0, syncOp())}
	// By twelve steps of the daemon Sure is 7 behind the eleventh one, in which it sees to it.
	for steps := range 13 {
		if got, want := synced(t, c, begun, daemonSteps(steps)), steps >= 11; got != want {
			t.Errorf("behind %d steps of the daemon it ends: %v", steps, got)
		}
	}
	// Begun while Now is 6 already, and Sure is not, it waits for 8.
	for steps := range 19 {
		if got, want := synced(t, c, daemonSteps(3), begun, daemonSteps(steps)), steps >= 14; got != want {
			t.Errorf("begun behind a tick, behind %d steps it ends: %v", steps, got)
		}
	}
	// A pick ahead of it leaves the aim.
	if !synced(t, c, begun, []impl.Event{pickEvent(0)}, daemonSteps(6), []impl.Event{pickEvent(0)}, daemonSteps(5)) {
		t.Error("it waits for longer where it was picked")
	}
}

func TestTheAimOfASyncIsTheLastEpochAtMost(t *testing.T) {
	begun := []impl.Event{beginEvent(0, syncOp())}
	for clock, most := range map[int64]int{9996: 11, 9997: 11, 9998: 5, 9999: 0} {
		c := impl.Config{Lines: 4, Threads: 1, Clock: clock}
		for steps := range most + 2 {
			if clock+int64(steps)/6 >= impl.MaxEpoch && steps%6 > 0 {
				continue
			}
			if got, want := synced(t, c, begun, daemonSteps(steps)), steps >= most; got != want {
				t.Errorf("from the clock %d on, behind %d steps of the daemon it ends: %v", clock, steps, got)
			}
		}
	}
	// Behind a tick to the last epoch Sure is one less, so it waits for just that.
	c := impl.Config{Lines: 4, Threads: 1, Clock: 9998}
	if synced(t, c, daemonSteps(3), begun) || synced(t, c, daemonSteps(4), begun) || !synced(t, c, daemonSteps(5), begun) {
		t.Error("begun in the last epoch it does not wait just until that is sure")
	}
}

// someThings: a directory, a file in it with two pieces, and an empty file; of the last one the ring is full, so it takes one more pick.
func someThings() []impl.Event {
	events := doing(0, makeDir("/d"), makeFile("/d/f"), writeOp("/d/f", 0, 1, 2, 3, 4), writeOp("/d/f", 1, 5, 6, 7, 8), makeFile("/e"))
	return append(events, pickEvent(0))
}

func someThingsItems() []impl.Item {
	return []impl.Item{dirItem("/d"), {Path: "/d/f", Data: []int64{1, 2, 3, 4, 5, 6, 7, 8}}, {Path: "/e"}}
}

func TestReadingAndListingTellWhatThereIs(t *testing.T) {
	c := impl.Config{Lines: 12, Threads: 1, Clock: 2}
	things := someThings()
	checkStateItems(t, "some things", ran(t, c, things), someThingsItems()...)
	replies := map[string]struct {
		op    impl.Op
		reply impl.Reply
	}{
		"a file":              {readOp("/d/f"), impl.Reply{Numbers: []int64{1, 2, 3, 4, 5, 6, 7, 8}}},
		"an empty file":       {readOp("/e"), impl.Reply{}},
		"a directory":         {listOp("/d"), impl.Reply{Names: []string{"f"}}},
		"the root":            {listOp("/"), impl.Reply{Names: []string{"d", "e"}}},
		"reading a directory": {readOp("/d"), impl.Reply{Code: impl.ErrForm}},
		"reading the root":    {readOp("/"), impl.Reply{Code: impl.ErrForm}},
		"reading nothing":     {readOp("/none"), impl.Reply{Code: impl.ErrNone}},
		"listing a file":      {listOp("/e"), impl.Reply{Code: impl.ErrForm}},
		"listing nothing":     {listOp("/d/none"), impl.Reply{Code: impl.ErrNone}},
	}
	for what, r := range replies {
		before, after := ran(t, c, things), ran(t, c, things, doing(0, r.op))
		checkReply(t, what, after, r.op, r.reply)
		before.Codes, before.Notes = after.Codes, after.Notes
		checkStateResult(t, what, impl.StateResult{State: after}, impl.StateResult{State: before})
	}
	// What is read is what there is when it is picked, not when it begins.
	s := ran(t, impl.Config{Lines: 12, Threads: 2, Clock: 2}, []impl.Event{beginEvent(1, listOp("/"))}, things, []impl.Event{pickEvent(1)})
	checkLastNote(t, "picked later", s, impl.Note{Kind: impl.NoteEnd, Who: 1, Op: listOp("/"), Reply: impl.Reply{Names: []string{"d", "e"}}})
	// Nothing keeps it from being read at the end of all epochs.
	last := impl.Config{Lines: 12, Threads: 1, Clock: 9999}
	checkReply(t, "the last epoch", ran(t, last, doing(0, listOp("/"))), listOp("/"), impl.Reply{})
	checkReply(t, "the last epoch", ran(t, last, doing(0, readOp("/a"))), readOp("/a"), impl.Reply{Code: impl.ErrNone})
}
