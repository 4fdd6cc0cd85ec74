package tests

import (
	"math"
	"math/rand"
	"reflect"
	"slices"
	"strings"
	"testing"

	"loop.example/g00691/impl"
)

// linesToAsk: right ones of each form, and such as are none.
func linesToAsk() []string {
	all := slices.Concat(someLines(), texts(), notNumerals())
	for line := range formEvents() {
		all = append(all, line, line+" ", line+" x", line+"\n")
	}
	for line := range formOps() {
		all = append(all, line)
	}
	// Of a map they come in any order; which of them is asked of which world must not hang on that.
	slices.Sort(all)
	return all
}

// wordsToAsk: the words of ops, and such as tell none.
func wordsToAsk() [][]string {
	all := lists()
	for line := range formOps() {
		words := strings.Split(line, " ")
		all = append(all, words, words[1:], append(slices.Clone(words), "1"), slices.Repeat(words, 21))
	}
	for _, text := range texts() {
		all = append(all, []string{text}, []string{"dir", text}, []string{"move", "/a", text}, []string{"cut", "/a", text}, []string{text, "/a", "1"}, []string{"write", "/a", "0", "1", "2", "3", text})
	}
	return all
}

// repliesToAsk: right ones, and such as have a fault.
func repliesToAsk() []impl.Reply {
	all := []impl.Reply{{}, {Numbers: []int64{}, Names: []string{}}, {Numbers: []int64{1, 2}, Names: []string{"a", "b"}}, {Code: 4, Numbers: []int64{1}}, {Numbers: make([]int64, 100000)}, {Names: make([]string, 100000)}}
	for _, faulty := range faultyNotes() {
		all = append(all, faulty.note.Reply)
	}
	for _, n := range []int64{math.MinInt64, math.MinInt64 + 1, -1, 0, 1, 9, 10, 9999, 10000, math.MaxInt64 - 1, math.MaxInt64} {
		all = append(all, impl.Reply{Code: n}, impl.Reply{Code: n, Numbers: []int64{n}}, impl.Reply{Numbers: []int64{1, n, 2}, Names: []string{"a"}})
	}
	for _, text := range texts() {
		all = append(all, impl.Reply{Names: []string{"a", text}}, impl.Reply{Names: []string{text}})
	}
	return all
}

type askedStep struct {
	askedWorld
	line string
}

// stepsToAsk: each world with some lines, and each line with some worlds.
func stepsToAsk() []askedStep {
	var all []askedStep
	lines := linesToAsk()
	turn := 0
	for _, asked := range askedWorlds() {
		for range 2 {
			all = append(all, askedStep{asked, lines[turn%len(lines)]})
			// Lines that stand near each other are much alike, so they come to other worlds.
			turn += 7
		}
		all = append(all, askedStep{asked, []string{"daemon", "begin 0 write /a 0 1 2 3 4", "pick 0", "crash 1 0", questionWords()[turn/5%5]}[turn%5]})
	}
	for _, line := range lines {
		all = append(all, askedStep{askedWorld{smallConfig(), someThings()}, line})
	}
	return all
}

type askedScript struct {
	config impl.Config
	text   string
}

func scriptsToAsk() []askedScript {
	r := rand.New(rand.NewSource(88))
	c := smallConfig()
	var all []askedScript
	for _, text := range append(linesToAsk(), strings.Repeat("\n", 40), strings.Repeat("\n", 41), strings.Repeat("daemon\n", 40), strings.Repeat("\n", 1000000)) {
		all = append(all, askedScript{c, text}, askedScript{c, text + "\nbegin 0 dir /a\n" + text + "\npick 0"})
	}
	for range 30 {
		config := anyConfig(r)
		all = append(all, askedScript{config, anyScript(r, config)})
	}
	for _, n := range []int64{math.MinInt64, -1, 0, 1, 4, 41, 9999, math.MaxInt64} {
		all = append(all, askedScript{impl.Config{Lines: n, Threads: n, Clock: n}, "now"}, askedScript{impl.Config{Lines: 8, Threads: n, Clock: 2}, "now"}, askedScript{impl.Config{Lines: 8, Threads: 1, Clock: n}, "now\ndaemon"})
	}
	return all
}

func TestAnyArgumentOfAScriptFunctionIsAnsweredAsTheDocumentTells(t *testing.T) {
	for _, line := range linesToAsk() {
		checkWordsOf(t, line, wordsOfByRule(line))
		checkNumberOf(t, line, numberOfByRule(line))
		checkEventOf(t, line, eventOfByRule(line))
	}
	for _, words := range wordsToAsk() {
		checkOpOf(t, words, opOfByRule(words))
	}
	for _, r := range repliesToAsk() {
		checkReplyText(t, r, replyTextByRule(r))
	}
	for _, asked := range stepsToAsk() {
		checkStep(t, asked.askedWorld, asked.line)
	}
	for _, asked := range scriptsToAsk() {
		checkRunOf(t, asked.config, asked.text)
	}
}

func TestNoArgumentOfAScriptFunctionIsChanged(t *testing.T) {
	for _, words := range wordsToAsk() {
		given := roomy(words, "free")
		before := slices.Clone(given)
		impl.OpOf(given[:len(words)])
		if !slices.Equal(given, before) {
			t.Fatalf("the words were changed: %q", words)
		}
	}
	for _, r := range repliesToAsk() {
		given := impl.Reply{Code: r.Code, Numbers: roomy(r.Numbers, -5), Names: roomy(r.Names, "free")}
		before := impl.Reply{Code: r.Code, Numbers: slices.Clone(given.Numbers), Names: slices.Clone(given.Names)}
		impl.ReplyText(impl.Reply{Code: r.Code, Numbers: given.Numbers[:len(r.Numbers)], Names: given.Names[:len(r.Names)]})
		if !reflect.DeepEqual(given, before) {
			t.Fatalf("a reply was changed: %+v", given)
		}
	}
	for _, asked := range stepsToAsk() {
		given := asked.withRoom()
		before := given.whole()
		impl.StepScript(given.config, given.events, asked.line)
		if !reflect.DeepEqual(given.whole(), before) {
			t.Fatalf("events were changed by %s", toldText(asked.line))
		}
	}
}

// eventSpans: the memory of the events themselves, and of the lists of each.
func eventSpans(events []impl.Event) []reach {
	spans := []reach{span(events)}
	for _, e := range events {
		spans = append(spans, span(e.Fates), span(e.Op.Numbers))
	}
	return spans
}

// checkApartFrom: none of the answer's lists shares memory with a given one, which need not be apart themselves.
func checkApartFrom(t *testing.T, what string, answer []reach, given []reach) {
	t.Helper()
	for _, a := range answer {
		if slices.ContainsFunc(given, func(b reach) bool { return overlap(a, b) }) {
			t.Fatalf("%s: an answer shares memory with an argument", what)
		}
	}
}

func TestEachAnswerOfAScriptFunctionIsNewMemory(t *testing.T) {
	for _, line := range linesToAsk() {
		e, other := impl.EventOf(line).Event, impl.EventOf(line).Event
		checkSpansApart(t, "the answers of a line", slices.Concat([]reach{span(impl.WordsOf(line).Words), span(impl.WordsOf(line).Words)}, eventSpans([]impl.Event{e}), eventSpans([]impl.Event{other})))
	}
	for _, words := range wordsToAsk() {
		checkSpansApart(t, "the answers of words", []reach{span(impl.OpOf(words).Op.Numbers), span(impl.OpOf(words).Op.Numbers), span(words)})
	}
	for _, asked := range stepsToAsk() {
		if len(asked.events) > 201 {
			continue
		}
		first, second := impl.StepScript(asked.config, asked.events, asked.line), impl.StepScript(asked.config, asked.events, asked.line)
		answers := append(eventSpans(first.Events), eventSpans(second.Events)...)
		checkSpansApart(t, "the answers of a step", answers)
		checkApartFrom(t, "a step", answers, eventSpans(asked.events))
	}
	for _, asked := range scriptsToAsk() {
		first, second := impl.RunScript(asked.config, asked.text), impl.RunScript(asked.config, asked.text)
		checkSpansApart(t, "the answers of a script", append(eventSpans(first.Events), eventSpans(second.Events)...))
	}
}

func TestListsThatEventsShareAreApartInTheAnswer(t *testing.T) {
	c := smallConfig()
	one := []int64{1, 0, 1, 1}
	write := impl.Op{Kind: impl.OpWrite, Path: "/a", Numbers: one}
	events := append(doing(0, makeFile("/a")), beginEvent(0, write), beginEvent(1, write), pickEvent(0), impl.Event{Kind: impl.EvCrash, Fates: one}, impl.Event{Kind: 77, Fates: one[:2], Op: impl.Op{Numbers: one[1:]}}, impl.Event{Kind: impl.EvCrash, Fates: one})
	for line, more := range map[string][]impl.Event{"": nil, "fair": nil, "crash 1 0 1 1": {crashEvent(1, 0, 1, 1)}, "mount": {mountEvent()}} {
		got := checkStep(t, askedWorld{c, events}, line)
		if !slices.EqualFunc(got.Events, append(slices.Clone(events), more...), sameEventByRule) {
			t.Fatalf("the events are %+v", got.Events)
		}
		checkSpansApart(t, "shared lists", append(eventSpans(got.Events), span(one)))
		scribbleEvents(got.Events)
	}
	if !slices.Equal(one, []int64{1, 0, 1, 1}) {
		t.Errorf("what is written into an answer is seen in the argument: %v", one)
	}
}

// textsOfEvents: those that are not empty.
func textsOfEvents(events []impl.Event) []string {
	var told []string
	for _, e := range events {
		told = append(told, e.Op.Path, e.Op.To)
	}
	return slices.DeleteFunc(told, func(text string) bool { return text == "" })
}

func checkNoPiece(t *testing.T, told []string, given ...string) {
	t.Helper()
	for _, text := range told {
		for _, whole := range given {
			if isInside(text, whole) {
				t.Fatalf("the text %s is a piece of an argument", toldText(text))
			}
		}
	}
}

// checkTextsApart: none of these is a piece of one ahead of it.
func checkTextsApart(t *testing.T, told []string) {
	t.Helper()
	for i, text := range told {
		for _, other := range told[:i] {
			if isInside(text, other) {
				t.Fatalf("the text %q is a piece of another one of the answer", text)
			}
		}
	}
}

func TestNoTextOfAScriptFunctionIsAPieceOfAnArgumentOrOfAnotherOne(t *testing.T) {
	for _, asked := range linesToAsk() {
		line := strings.Clone(asked)
		words := impl.WordsOf(line).Words
		checkNoPiece(t, words, line)
		checkTextsApart(t, words[:min(len(words), 100)])
		told := textsOfEvents([]impl.Event{impl.EventOf(line).Event})
		checkNoPiece(t, told, line)
		checkTextsApart(t, told)
	}
	for _, asked := range wordsToAsk() {
		if len(asked) > 1000 {
			continue
		}
		words := slices.Clone(asked)
		for i := range words {
			words[i] = strings.Clone(words[i])
		}
		checkNoPiece(t, textsOfEvents([]impl.Event{{Op: impl.OpOf(words).Op}}), words...)
	}
	for _, name := range []string{"a", "zzzzzz", "yes"} {
		name = strings.Clone(name)
		checkNoPiece(t, []string{impl.ReplyText(impl.Reply{Names: []string{name}}).Text}, name)
		checkNoPiece(t, []string{name}, impl.ReplyText(impl.Reply{Names: []string{name}}).Text)
	}
	for _, asked := range stepsToAsk() {
		if len(asked.events) > 200 {
			continue
		}
		line, events := strings.Clone(asked.line), slices.Clone(asked.events)
		for i := range events {
			events[i].Op.Path, events[i].Op.To = strings.Clone(events[i].Op.Path), strings.Clone(events[i].Op.To)
		}
		got := impl.StepScript(asked.config, events, line)
		told := textsOfEvents(got.Events)
		checkNoPiece(t, append(slices.Clone(told), got.Said), append(textsOfEvents(events), line)...)
		checkTextsApart(t, told)
	}
	for _, asked := range scriptsToAsk() {
		text := strings.Clone(asked.text)
		got := impl.RunScript(asked.config, text)
		told := append(textsOfEvents(got.Events), got.Said)
		checkNoPiece(t, told, text)
		checkTextsApart(t, told)
	}
}

func scribbleEvents(events []impl.Event) {
	for i, e := range events {
		for j := range e.Fates {
			e.Fates[j] = math.MinInt64
		}
		for j := range e.Op.Numbers {
			e.Op.Numbers[j] = math.MinInt64
		}
		events[i] = impl.Event{Kind: -5}
	}
}

func TestAnAnswerOfAScriptFunctionThatIsWrittenOverIsNotSeenInTheNextOne(t *testing.T) {
	for _, line := range linesToAsk() {
		words := impl.WordsOf(line).Words
		for i := range words {
			words[i] = "scribbled"
		}
		checkWordsOf(t, line, wordsOfByRule(line))
		scribbleEvents([]impl.Event{impl.EventOf(line).Event})
		checkEventOf(t, line, eventOfByRule(line))
	}
	for _, words := range wordsToAsk() {
		scribbleEvents([]impl.Event{{Op: impl.OpOf(words).Op}})
		checkOpOf(t, words, opOfByRule(words))
	}
	for i, asked := range stepsToAsk() {
		first := impl.StepScript(asked.config, asked.events, asked.line)
		before := impl.StepScript(asked.config, asked.events, asked.line)
		scribbleEvents(first.Events)
		checkScript(t, "scribbled", impl.StepScript(asked.config, asked.events, asked.line), before)
		if i%8 == 0 {
			checkStep(t, asked.askedWorld, asked.line)
		}
	}
	for _, asked := range scriptsToAsk() {
		scribbleEvents(impl.RunScript(asked.config, asked.text).Events)
		checkRunOf(t, asked.config, asked.text)
	}
}

func TestAnswersOfAScriptFunctionHangOnTheArgumentsAlone(t *testing.T) {
	for _, line := range linesToAsk() {
		copied := strings.Clone(line)
		if !reflect.DeepEqual(impl.WordsOf(line), impl.WordsOf(copied)) || !reflect.DeepEqual(impl.EventOf(line), impl.EventOf(copied)) || impl.NumberOf(line) != impl.NumberOf(copied) {
			t.Fatalf("two calls with the line %s answer differently", toldText(line))
		}
	}
	for _, words := range wordsToAsk() {
		if !reflect.DeepEqual(impl.OpOf(words), impl.OpOf(roomy(words, "1")[:len(words)])) {
			t.Fatalf("two calls with the same words answer differently: %.300q", words)
		}
	}
	for _, r := range repliesToAsk() {
		room := impl.Reply{Code: r.Code, Numbers: roomy(r.Numbers, 1)[:len(r.Numbers)], Names: roomy(r.Names, "a")[:len(r.Names)]}
		if impl.ReplyText(r) != impl.ReplyText(room) {
			t.Fatalf("two calls with the same reply answer differently: %.300v", r)
		}
	}
	for _, asked := range stepsToAsk() {
		first := impl.StepScript(asked.config, asked.events, asked.line)
		for _, again := range []askedWorld{asked.askedWorld, asked.withRoom()} {
			if !reflect.DeepEqual(first, impl.StepScript(again.config, again.events, asked.line)) {
				t.Fatalf("two calls with the same arguments answer differently: %s", toldText(asked.line))
			}
		}
	}
	for _, asked := range scriptsToAsk() {
		if !reflect.DeepEqual(impl.RunScript(asked.config, asked.text), impl.RunScript(asked.config, strings.Clone(asked.text))) {
			t.Fatalf("two calls with the same script answer differently: %s", toldText(asked.text))
		}
	}
}

func TestBesideACodeOfAScriptFunctionAllElseIsZero(t *testing.T) {
	seen := map[int64]int{}
	for _, line := range linesToAsk() {
		words, number, e := impl.WordsOf(line), impl.NumberOf(line), impl.EventOf(line)
		if words.Code != 0 && words.Words != nil || number.Code != 0 && number.Value != 0 || e.Code != 0 && !sameEventByRule(e.Event, impl.Event{}) {
			t.Fatalf("beside a code there is %+v, %+v or %+v", words, number, e)
		}
		seen[e.Code]++
	}
	for _, words := range wordsToAsk() {
		if o := impl.OpOf(words); o.Code != 0 && !sameOpByRule(o.Op, impl.Op{}) {
			t.Fatalf("beside a code there is %+v", o)
		}
	}
	for _, r := range repliesToAsk() {
		if told := impl.ReplyText(r); told.Code != 0 && told.Text != "" {
			t.Fatalf("beside a code there is %+v", told)
		}
	}
	for _, asked := range stepsToAsk() {
		got := impl.StepScript(asked.config, asked.events, asked.line)
		if got.Code != 0 && !sameScripts(got, impl.ScriptResult{Code: got.Code}) {
			t.Fatalf("beside a code there is %+v", got)
		}
		seen[got.Code]++
	}
	for _, asked := range scriptsToAsk() {
		got := impl.RunScript(asked.config, asked.text)
		if got.Code != 0 && !sameScripts(got, impl.ScriptResult{Code: got.Code}) {
			t.Fatalf("beside a code there is %+v", got)
		}
		seen[got.Code]++
	}
	checkSeen(t, seen, impl.OK, impl.ErrMany, impl.ErrRange, impl.ErrText, impl.ErrState)
}

func TestNilAndEmptyListsOfScriptsAreTheSame(t *testing.T) {
	if !reflect.DeepEqual(impl.OpOf(nil), impl.OpOf([]string{})) {
		t.Error("no words are answered in two ways")
	}
	for _, asked := range stepsToAsk() {
		events := append([]impl.Event{}, asked.events...)
		for i, e := range events {
			events[i].Fates = append([]int64{}, e.Fates...)
			events[i].Op.Numbers = append([]int64{}, e.Op.Numbers...)
		}
		first, second := impl.StepScript(asked.config, asked.events, asked.line), impl.StepScript(asked.config, events, asked.line)
		if !reflect.DeepEqual(first, second) {
			t.Fatalf("empty lists are answered otherwise: %s", toldText(asked.line))
		}
	}
}
