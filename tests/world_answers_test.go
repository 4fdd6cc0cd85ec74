package tests

import (
	"math"
	"math/rand"
	"reflect"
	"slices"
	"strings"
	"testing"

	"loop.example/g00691/impl"
)

// askedWorlds: worlds of many kinds, with events and configs that have a fault among them, and such as are far out of all bounds.
func askedWorlds() []askedWorld {
	r := rand.New(rand.NewSource(59))
	all := []askedWorld{
		{}, {smallConfig(), nil}, {smallConfig(), []impl.Event{}}, {smallConfig(), make([]impl.Event, 201)}, {smallConfig(), make([]impl.Event, 100000)},
		{impl.Config{Lines: 3}, someThings()}, {impl.Config{Lines: 4, Threads: 9, Clock: 2}, someThings()}, {smallConfig(), someThings()},
	}
	for _, events := range differentWorlds() {
		all = append(all, askedWorld{smallConfig(), slices.Concat(events, doing(0, writeOp("/a", 0, 1, 2, 3, 4), readOp("/a"), listOp("/")))})
	}
	for range 40 {
		all = append(all, anyWorld(r, 200), anyWorld(r, r.Intn(60)))
	}
	for _, o := range farOps() {
		all = append(all, askedWorld{smallConfig(), slices.Concat(someThings(), doing(0, o), doing(1, o))})
	}
	for _, n := range []int64{math.MinInt64, math.MinInt64 + 1, -1, 0, 1, 4, 41, 328, 9999, math.MaxInt64 - 1, math.MaxInt64} {
		far := []impl.Event{{Kind: n}, pickEvent(n), beginEvent(n, syncOp()), evictEvent(n), crashEvent(n, n), crashEvent(make([]int64, 1000)...), {Kind: n, Who: n, At: n, Fates: []int64{n}, Op: writeOp("/a", n, n, n, n, n)}}
		all = append(all, askedWorld{smallConfig(), append(someThings(), far...)}, askedWorld{impl.Config{Lines: n, Threads: n, Clock: n}, far})
		all = append(all, askedWorld{impl.Config{Lines: 8, Threads: 1, Clock: n}, someThings()}, askedWorld{impl.Config{Lines: 8, Threads: n, Clock: 2}, someThings()})
	}
	return all
}

func TestAnyArgumentOfAWorldFunctionIsAnsweredAsTheDocumentTells(t *testing.T) {
	for _, asked := range askedWorlds() {
		checkConfigFault(t, asked.config, configFaultByRule(asked.config))
		for _, e := range asked.events {
			checkEventFault(t, "an event of a world", e, eventFaultByRule(e))
		}
		s := checkWorld(t, asked.config, asked.events)
		checkBusy(t, s.Busy, busyByRule(s))
	}
}

// withRoom: each list of the events with free places behind it, where a careless append would write.
func (a askedWorld) withRoom() askedWorld {
	events := slices.Clone(a.events)
	for i, e := range events {
		events[i].Fates = roomy(e.Fates, -5)[:len(e.Fates)]
		events[i].Op.Numbers = roomy(e.Op.Numbers, -5)[:len(e.Op.Numbers)]
	}
	return askedWorld{a.config, roomy(events, impl.Event{Kind: -5})[:len(events)]}
}

// whole: all of it that is in memory, with what is free behind each list.
func (a askedWorld) whole() []impl.Event {
	whole := slices.Clone(a.events[:cap(a.events)])
	for i, e := range whole {
		whole[i].Fates = slices.Clone(e.Fates[:cap(e.Fates)])
		whole[i].Op.Numbers = slices.Clone(e.Op.Numbers[:cap(e.Op.Numbers)])
	}
	return whole
}

func TestNoArgumentOfAWorldFunctionIsChanged(t *testing.T) {
	for _, asked := range askedWorlds() {
		given := asked.withRoom()
		before := given.whole()
		impl.RunWorld(given.config, given.events)
		for _, e := range given.events {
			impl.EventFault(e)
		}
		if !reflect.DeepEqual(given.whole(), before) {
			t.Fatalf("an argument was changed: %.300v", asked)
		}
	}
	r := rand.New(rand.NewSource(60))
	for range 200 {
		a, b := anyState(r), anyState(r)
		beforeA, beforeB := copyOfState(a), copyOfState(b)
		impl.BusyIn(a)
		impl.SameStates(a, b)
		impl.SameStates(a, copyOfState(a))
		impl.SameNotes(a.Notes, b.Notes)
		if !reflect.DeepEqual(a, beforeA) || !reflect.DeepEqual(b, beforeB) {
			t.Fatalf("a state was changed: %+v, %+v", a, beforeA)
		}
	}
}

func noteSpans(notes []impl.Note) []reach {
	spans := []reach{span(notes)}
	for _, n := range notes {
		spans = append(spans, span(n.Op.Numbers), span(n.Reply.Numbers), span(n.Reply.Names))
	}
	return spans
}

// stateSpans: the memory of all lists of a state.
func stateSpans(s impl.State) []reach {
	return slices.Concat(spansOf(s.Device), itemSpans(s.Items), []reach{span(s.Busy), span(s.Codes)}, noteSpans(s.Notes))
}

func TestEachAnswerOfAWorldIsNewMemory(t *testing.T) {
	for _, asked := range askedWorlds() {
		given := []reach{span(asked.events)}
		for _, e := range asked.events {
			given = append(given, span(e.Fates), span(e.Op.Numbers))
		}
		first, second := impl.RunWorld(asked.config, asked.events).State, impl.RunWorld(asked.config, asked.events).State
		// All lists of two rounds at once: none of them is one of another answer, or of another note.
		answers := slices.Concat(stateSpans(first), stateSpans(second), []reach{span(impl.BusyIn(first).List), span(impl.BusyIn(first).List)})
		checkSpansApart(t, "the answers of a world", answers)
		for _, a := range answers {
			if slices.ContainsFunc(given, func(b reach) bool { return overlap(a, b) }) {
				t.Fatalf("an answer shares memory with an argument: %.300v", asked)
			}
		}
	}
}

func TestListsThatEventsShareAreApartInTheNotes(t *testing.T) {
	one := []int64{1, 2, 3, 4}
	write := func(index int64) impl.Op { return impl.Op{Kind: impl.OpWrite, Path: "/a", Index: index, Numbers: one} }
	empty := impl.Op{Kind: impl.OpRead, Path: "/a", Numbers: one[2:2]}
	events := doing(0, makeFile("/a"), write(0), write(1), empty, readOp("/a"), empty)
	s := ran(t, oneThread(), events)
	checkSpansApart(t, "notes of shared lists", append(stateSpans(s), span(one)))
	checkStateItems(t, "shared lists", s, impl.Item{Path: "/a", Data: []int64{1, 2, 3, 4, 1, 2, 3, 4}})
	for _, n := range s.Notes {
		for i := range n.Op.Numbers {
			n.Op.Numbers[i] = -1
		}
	}
	if !slices.Equal(one, []int64{1, 2, 3, 4}) || s.Items[0].Data[0] != 1 {
		t.Error("what is written into a note is seen elsewhere")
	}
}

// textsOf: all texts of a state.
func textsOf(s impl.State) []string {
	var texts []string
	for _, item := range s.Items {
		texts = append(texts, item.Path)
	}
	for _, n := range s.Notes {
		texts = append(append(texts, n.Op.Path, n.Op.To), n.Reply.Names...)
	}
	return texts
}

func TestNoTextOfAWorldIsAPieceOfAnArgumentOrOfAnotherOne(t *testing.T) {
	for _, asked := range askedWorlds() {
		if len(asked.events) > 200 {
			continue
		}
		events := slices.Clone(asked.events)
		for i := range events {
			events[i].Op.Path, events[i].Op.To = strings.Clone(events[i].Op.Path), strings.Clone(events[i].Op.To)
		}
		told := textsOf(impl.RunWorld(asked.config, events).State)
		for i, text := range told {
			for _, e := range events {
				if isInside(text, e.Op.Path) || isInside(text, e.Op.To) {
					t.Fatalf("the text %q is a piece of an argument", text)
				}
			}
			for _, other := range told[:i] {
				if isInside(text, other) {
					t.Fatalf("the text %q is a piece of another one of the answer", text)
				}
			}
		}
	}
}

func scribbleState(s impl.State) {
	scribble(s.Device)
	scribbleItems(s.Items)
	for i, n := range s.Notes {
		for j := range n.Op.Numbers {
			n.Op.Numbers[j] = -1
		}
		for j := range n.Reply.Numbers {
			n.Reply.Numbers[j] = -1
		}
		for j := range n.Reply.Names {
			n.Reply.Names[j] = "scribbled"
		}
		s.Notes[i] = impl.Note{Kind: -1}
	}
	for i := range s.Codes {
		s.Codes[i] = -1
	}
	for i := range s.Busy {
		s.Busy[i] = true
	}
}

func TestAnAnswerOfAWorldThatIsWrittenOverIsNotSeenInTheNextOne(t *testing.T) {
	for _, asked := range askedWorlds() {
		scribbleState(impl.RunWorld(asked.config, asked.events).State)
		checkWorld(t, asked.config, asked.events)
	}
}

func TestAnswersOfAWorldHangOnTheArgumentsAlone(t *testing.T) {
	for _, asked := range askedWorlds() {
		first := impl.RunWorld(asked.config, asked.events)
		// What is free behind the lists is no part of the arguments.
		for _, again := range []askedWorld{asked, asked.withRoom(), asked} {
			if !reflect.DeepEqual(first, impl.RunWorld(again.config, again.events)) {
				t.Fatalf("two calls with the same arguments answer differently: %.300v", asked)
			}
		}
	}
}

func TestBesideACodeOfAWorldAllElseIsZero(t *testing.T) {
	for _, asked := range askedWorlds() {
		got := impl.RunWorld(asked.config, asked.events)
		if got.Code != impl.OK && !impl.SameStates(got.State, impl.State{}) {
			t.Fatalf("beside a code there is %+v", got)
		}
	}
	if got := impl.BusyIn(impl.State{Busy: []bool{true, true, true, true, true}}); got.Code != impl.ErrMany || len(got.List) != 0 {
		t.Errorf("beside a code there is %+v", got)
	}
}

func TestNilAndEmptyListsOfAWorldAreTheSame(t *testing.T) {
	empty := func(e impl.Event) impl.Event {
		if len(e.Fates) == 0 {
			e.Fates = []int64{}
		}
		if len(e.Op.Numbers) == 0 {
			e.Op.Numbers = []int64{}
		}
		return e
	}
	for _, asked := range askedWorlds() {
		events := slices.Clone(asked.events)
		for i := range events {
			events[i] = empty(events[i])
		}
		first, second := impl.RunWorld(asked.config, asked.events), impl.RunWorld(asked.config, events)
		checkStateResult(t, "empty lists", second, first)
	}
	checkStateResult(t, "no events", impl.RunWorld(smallConfig(), []impl.Event{}), impl.RunWorld(smallConfig(), nil))
}
