package tests

import (
	"slices"
	"testing"

	"loop.example/g00691/impl"
)

// Draining, settling and crashing once more, event by event on the second writing of the world, to hold the program's answers against.

func (w *worldByRule) isAnybodyBusy() bool {
	return slices.ContainsFunc(w.threads, func(thread threadByRule) bool { return thread.busy })
}

func (w *worldByRule) drain() int64 {
	for !w.up {
		w.take(mountEvent())
	}
	rounds := int64(0)
	for rounds < 1000 && w.isAnybodyBusy() {
		var round []impl.Event
		for who, thread := range w.threads {
			if thread.busy {
				round = append(round, pickEvent(int64(who)))
			}
		}
		for _, e := range append(round, daemonEvent()) {
			w.take(e)
		}
		rounds++
	}
	return rounds
}

func (w *worldByRule) settle() {
	for rests := 0; rests < 5; {
		before := w.phase
		if w.take(daemonEvent()) != 0 {
			return
		}
		if w.phase == "rests" && before != "rests" {
			rests++
		}
	}
}

func drainByRule(c impl.Config, events []impl.Event) impl.DrainResult {
	w, code := behindByRule(c, events)
	if code != 0 {
		return impl.DrainResult{Code: code}
	}
	rounds := w.drain()
	return impl.DrainResult{State: w.state(), Rounds: rounds}
}

func settleByRule(c impl.Config, events []impl.Event) impl.StateResult {
	w, code := behindByRule(c, events)
	if code != 0 {
		return impl.StateResult{Code: code}
	}
	w.drain()
	w.settle()
	return impl.StateResult{State: w.state()}
}

// crashTreeByRule: cell by cell, those of Flights and then those of Over.
func crashTreeByRule(c impl.Config, events []impl.Event, fates []int64) impl.ItemsResult {
	w, code := behindByRule(c, events)
	if code != 0 {
		return impl.ItemsResult{Code: code}
	}
	for _, fate := range fates {
		if fate != 0 && fate != 1 {
			return impl.ItemsResult{Code: impl.ErrRange}
		}
	}
	words := slices.Clone(w.device.Words)
	for i, cell := range slices.Concat(w.device.Flights, w.device.Over) {
		if len(fates) > 0 && fates[i%len(fates)] == 1 {
			words[cell.At] = cell.Value
		}
	}
	return treeByRule(words)
}

func checkDrainResult(t *testing.T, what string, got impl.DrainResult, want impl.DrainResult) {
	t.Helper()
	if got.Rounds != want.Rounds {
		t.Fatalf("%s: there were %d rounds, want %d", what, got.Rounds, want.Rounds)
	}
	checkStateResult(t, what, impl.StateResult{Code: got.Code, State: got.State}, impl.StateResult{Code: want.Code, State: want.State})
}

// checkDrain holds the draining against the rule, and answers it.
func checkDrain(t *testing.T, asked askedWorld) impl.DrainResult {
	t.Helper()
	got := impl.DrainWorld(asked.config, asked.events)
	checkDrainResult(t, "DrainWorld", got, drainByRule(asked.config, asked.events))
	return got
}

// checkSettle holds the settling against the rule, and answers it.
func checkSettle(t *testing.T, asked askedWorld) impl.StateResult {
	t.Helper()
	got := impl.SettleWorld(asked.config, asked.events)
	checkStateResult(t, "SettleWorld", got, settleByRule(asked.config, asked.events))
	return got
}

// checkCrashTree holds the tree behind a crash against the rule, and answers it.
func checkCrashTree(t *testing.T, asked askedWorld, fates []int64) impl.ItemsResult {
	t.Helper()
	got := impl.CrashTree(asked.config, asked.events, fates)
	checkItemsResult(t, "CrashTree", got, crashTreeByRule(asked.config, asked.events, fates))
	return got
}

// drained: what there is behind events of which none has a code, when they are drained, and how many rounds that took.
func drained(t *testing.T, c impl.Config, parts ...[]impl.Event) (impl.State, int64) {
	t.Helper()
	s := ran(t, c, parts...)
	got := checkDrain(t, askedWorld{c, slices.Concat(parts...)})
	if got.Code != 0 || len(got.State.Codes) < len(s.Codes) {
		t.Fatalf("DrainWorld of %+v has the code %d and %d codes", c, got.Code, len(got.State.Codes))
	}
	return got.State, got.Rounds
}

// settled: what there is behind events of which none has a code, when they are settled.
func settled(t *testing.T, c impl.Config, parts ...[]impl.Event) impl.State {
	t.Helper()
	s := ran(t, c, parts...)
	got := checkSettle(t, askedWorld{c, slices.Concat(parts...)})
	if got.Code != 0 || len(got.State.Codes) < len(s.Codes) {
		t.Fatalf("SettleWorld of %+v has the code %d and %d codes", c, got.Code, len(got.State.Codes))
	}
	return got.State
}

func checkRounds(t *testing.T, what string, got int64, want int64) {
	t.Helper()
	if got != want {
		t.Fatalf("%s: there were %d rounds, want %d", what, got, want)
	}
}

// checkCodesBehind: the codes behind those of the first so many events are just these.
func checkCodesBehind(t *testing.T, what string, s impl.State, events int, codes ...int64) {
	t.Helper()
	if len(s.Codes) < events || !slices.Equal(s.Codes[events:], codes) {
		t.Fatalf("%s: behind %d events the codes are %v, want %v", what, events, s.Codes[min(events, len(s.Codes)):], codes)
	}
}

func checkNobodyBusy(t *testing.T, what string, s impl.State) {
	t.Helper()
	if !s.Up || slices.Contains(s.Busy, true) {
		t.Fatalf("%s: it is up: %v, and busy are %v", what, s.Up, s.Busy)
	}
}

// checkEnds: the last notes are ends of these threads, in this order, with these codes.
func checkEnds(t *testing.T, what string, s impl.State, ends ...[2]int64) {
	t.Helper()
	if len(s.Notes) < len(ends) {
		t.Fatalf("%s: there are %d notes", what, len(s.Notes))
	}
	for i, n := range s.Notes[len(s.Notes)-len(ends):] {
		if n.Kind != impl.NoteEnd || n.Who != ends[i][0] || n.Reply.Code != ends[i][1] {
			t.Fatalf("%s: the note number %d of the last ones is %+v, want the end of %d with the code %d", what, i, n, ends[i][0], ends[i][1])
		}
	}
}

func zeros(many int) []int64 {
	return make([]int64, many)
}
