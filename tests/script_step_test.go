package tests

import (
	"slices"
	"strconv"
	"strings"
	"testing"

	"loop.example/g00691/impl"
)

// checkComes: the line is an event, which stands behind the others then, and this is said.
func checkComes(t *testing.T, c impl.Config, events []impl.Event, line string, e impl.Event, said string) {
	t.Helper()
	want := impl.ScriptResult{Events: append(slices.Clone(events), e), Said: said}
	checkScript(t, toldText(line), checkStep(t, askedWorld{c, events}, line), want)
}

// checkSaid: no event comes of the line, and this is said.
func checkSaid(t *testing.T, c impl.Config, events []impl.Event, line string, said string) {
	t.Helper()
	checkScript(t, toldText(line), checkStep(t, askedWorld{c, events}, line), impl.ScriptResult{Events: events, Said: said})
}

func checkNoStep(t *testing.T, c impl.Config, events []impl.Event, line string, code int64) {
	t.Helper()
	checkScript(t, toldText(line), checkStep(t, askedWorld{c, events}, line), impl.ScriptResult{Code: code})
}

func questionWords() []string {
	return []string{"now", "sure", "free", "items", "fair"}
}

// someLines: of each kind that there is, and of none.
func someLines() []string {
	return append(questionWords(),
		"", " ", "now now", "foo", "begin 0 sync", "pick 0", "daemon", "evict 1", "crash 1", "mount", "begin 9 sync", "begin 0 dir a", "pick 4",
		"now\n", "\n", strings.Repeat(" ", 3001), strings.Repeat("\n", 3001), "begin 0"+strings.Repeat(" x", 30),
	)
}

func TestTheCodesOfTheRunAreAskedAheadOfTheLine(t *testing.T) {
	c := smallConfig()
	for _, line := range someLines() {
		for config, code := range map[impl.Config]int64{
			{}:                                   impl.ErrMany,
			{Lines: 3, Threads: 1, Clock: 2}:     impl.ErrMany,
			{Lines: 42, Threads: 1, Clock: 2}:    impl.ErrMany,
			{Lines: 42, Threads: 0, Clock: 0}:    impl.ErrMany,
			{Lines: 4, Threads: 0, Clock: 2}:     impl.ErrRange,
			{Lines: 4, Threads: 5, Clock: 2}:     impl.ErrRange,
			{Lines: 4, Threads: 1, Clock: 1}:     impl.ErrRange,
			{Lines: 4, Threads: 1, Clock: 10000}: impl.ErrRange,
		} {
			for _, many := range []int{0, 1, 200, 201} {
				checkNoStep(t, config, daemonSteps(many), line, code)
			}
		}
		for _, many := range []int{201, 202, 1000} {
			checkNoStep(t, c, daemonSteps(many), line, impl.ErrMany)
			checkNoStep(t, c, make([]impl.Event, many), line, impl.ErrMany)
		}
	}
}

func TestLinesWithALineFeed(t *testing.T) {
	c := smallConfig()
	for _, events := range [][]impl.Event{nil, someThings(), append(someThings(), crashEvent()), daemonSteps(200)} {
		for _, line := range []string{"\n", "now\n", "\nnow", "daemon\n", "daemon\n\n", "daemon\ndaemon", " \n ", "foo\nbar", "begin 0 dir /a\n", strings.Repeat(" ", 3000) + "\n", strings.Repeat("\n", 3001), "\n" + strings.Repeat("a", 1000000)} {
			checkNoStep(t, c, events, line, impl.ErrText)
		}
		for _, line := range []string{strings.Repeat(" ", 3001), strings.Repeat("a", 3001), "now" + strings.Repeat(" ", 2998), "daemon" + strings.Repeat(" ", 2995), strings.Repeat("a", 1000000)} {
			checkNoStep(t, c, events, line, impl.ErrMany)
		}
	}
	checkSaid(t, c, nil, "now"+strings.Repeat(" ", 2997), "2")
	checkComes(t, c, nil, strings.Repeat(" ", 2994)+"daemon", daemonEvent(), "ok")
	checkNoStep(t, c, nil, strings.Repeat("a", 3000), impl.ErrText)
	// Another byte is no line feed, and no blank.
	for _, line := range []string{"now\r", "now\t", "daemon\r", "now\x00", "\vnow"} {
		checkNoStep(t, c, nil, line, impl.ErrText)
	}
}

func TestOfALineWithoutWordsNothingComesAndNothingIsSaid(t *testing.T) {
	for name, events := range differentWorlds() {
		for _, line := range []string{"", " ", "      ", strings.Repeat(" ", 3000)} {
			got := checkStep(t, askedWorld{smallConfig(), events}, line)
			checkScript(t, name, got, impl.ScriptResult{Events: events})
		}
	}
	checkSaid(t, smallConfig(), daemonSteps(200), " ", "")
}

func TestWhatIsSaidOfAWordThatAsks(t *testing.T) {
	c := smallConfig()
	worlds := differentWorlds()
	worlds["some things"] = someThings()
	worlds["some things, and down"] = append(someThings(), crashEvent(1))
	worlds["some things, and up again"] = slices.Concat(throughRounds(c, someThings(), 2), []impl.Event{crashEvent()}, mountSteps(2))
	worlds["as many events as there may be"] = append(daemonSteps(199), impl.Event{})
	for name, events := range worlds {
		s := ranWithCodes(t, c, events)
		if !s.Up && (s.Now != 0 || s.Sure != 0 || s.Free != 0 || len(s.Items) != 0) {
			t.Fatalf("%s: it is not up, but there is something: %+v", name, s)
		}
		said := []string{strconv.FormatInt(s.Now, 10), strconv.FormatInt(s.Sure, 10), strconv.FormatInt(s.Free, 10), strconv.Itoa(len(s.Items)), map[bool]string{true: "yes", false: "no"}[impl.IsExplained(s.Notes)]}
		for i, word := range questionWords() {
			checkSaid(t, c, events, word, said[i])
			checkSaid(t, c, events, "  "+word+"   ", said[i])
			for _, other := range []string{word + " " + word, word + " 0", "0 " + word, word + " foo", word + " daemon", strings.ToUpper(word), word + "s", word[1:], word + "\t"} {
				checkNoStep(t, c, events, other, impl.ErrText)
			}
		}
	}
	s := someThings()
	for i, said := range []string{"2", "2", strconv.Itoa(11 - 5), "3", "yes"} {
		checkSaid(t, c, s, questionWords()[i], said)
	}
	for i, said := range []string{"0", "0", "0", "0", "yes"} {
		checkSaid(t, c, append(s, crashEvent(1)), questionWords()[i], said)
	}
	// Sure is less than Now from a tick on until that is seen to.
	checkSaid(t, c, daemonSteps(4), "now", "3")
	checkSaid(t, c, daemonSteps(4), "sure", "2")
	checkSaid(t, impl.Config{Lines: 41, Threads: 4, Clock: 9999}, nil, "now", "9999")
	checkSaid(t, impl.Config{Lines: 41, Threads: 4, Clock: 9999}, nil, "free", "40")
}

func TestHowManyEventsMayCome(t *testing.T) {
	c := smallConfig()
	checkComes(t, c, daemonSteps(198), "daemon", daemonEvent(), "ok")
	checkComes(t, c, daemonSteps(199), "daemon", daemonEvent(), "ok")
	checkComes(t, c, make([]impl.Event, 199), "begin 0 sync", beginEvent(0, syncOp()), "ok")
	for _, events := range [][]impl.Event{daemonSteps(200), make([]impl.Event, 200)} {
		// Whether there is room is asked ahead of what the world says of it, and behind what the line is.
		for _, line := range []string{"daemon", "begin 0 sync", "crash", "mount", "pick 0", "pick 3", "begin 2 sync", "evict 1", "evict 327"} {
			checkNoStep(t, c, events, line, impl.ErrFull)
		}
		for line, code := range map[string]int64{"foo": impl.ErrText, "pick 4": impl.ErrRange, "crash 2": impl.ErrRange, "begin 0 dir /a/b/c/d/e": impl.ErrMany, "now now": impl.ErrText, "daemon\n": impl.ErrText, strings.Repeat(" ", 3001): impl.ErrMany} {
			checkNoStep(t, c, events, line, code)
		}
		checkSaid(t, c, events, "", "")
		checkSaid(t, c, events, "fair", "yes")
	}
	checkSaid(t, c, daemonSteps(200), "now", "35")
}

func TestEventsForWhichThereIsACode(t *testing.T) {
	c := smallConfig()
	down := append(someThings(), crashEvent(1))
	late := impl.Config{Lines: 4, Threads: 1, Clock: 9999}
	for _, refused := range []struct {
		config impl.Config
		events []impl.Event
		line   string
		code   int64
	}{
		{c, nil, "begin 2 sync", impl.ErrRange},
		{c, nil, "begin 3 dir /a", impl.ErrRange},
		{c, nil, "pick 2", impl.ErrRange},
		{c, nil, "evict 96", impl.ErrRange},
		{c, nil, "evict 327", impl.ErrRange},
		{c, down, "pick 3", impl.ErrRange},
		{c, down, "evict 100", impl.ErrRange},
		{c, nil, "evict 0", impl.ErrNone},
		{c, someThings(), "evict 95", impl.ErrNone},
		{c, down, "evict 8", impl.ErrNone},
		{c, nil, "mount", impl.ErrState},
		{c, someThings(), "mount", impl.ErrState},
		{c, down, "begin 0 sync", impl.ErrState},
		{c, down, "pick 0", impl.ErrState},
		{c, down, "daemon", impl.ErrState},
		{c, append(down, mountEvent()), "daemon", impl.ErrState},
		{c, nil, "pick 0", impl.ErrState},
		{c, someThings(), "pick 1", impl.ErrState},
		{c, []impl.Event{beginEvent(0, syncOp())}, "begin 0 dir /a", impl.ErrState},
		{c, []impl.Event{beginEvent(0, syncOp())}, "begin 0 sync", impl.ErrState},
		{late, nil, "daemon", impl.ErrState},
	} {
		checkNoStep(t, refused.config, refused.events, refused.line, refused.code)
		// It is the code that RunWorld has for it.
		e := impl.EventOf(refused.line).Event
		checkCodes(t, refused.line, ranWithCodes(t, refused.config, refused.events, []impl.Event{e}), refused.code)
	}
	// What another event ahead of it has for a code does not matter.
	events := []impl.Event{{}, mountEvent(), pickEvent(3), evictEvent(-1)}
	checkComes(t, c, events, "begin 0 dir /a", beginEvent(0, makeDir("/a")), "ok")
	checkComes(t, c, append(events, beginEvent(0, makeDir("/a"))), "pick 0", pickEvent(0), "yes")
}

func TestEventsForWhichThereIsNoCode(t *testing.T) {
	c := smallConfig()
	stored := someThings()
	down := append(someThings(), crashEvent())
	for _, came := range []struct {
		events []impl.Event
		line   string
		event  impl.Event
	}{
		{nil, "daemon", daemonEvent()},
		{nil, "crash", crashEvent()},
		{nil, "crash 1 0", crashEvent(1, 0)},
		{down, "crash", crashEvent()},
		{down, "mount", mountEvent()},
		{append(slices.Clone(down), mountEvent()), "mount", mountEvent()},
		{append(slices.Clone(down), mountSteps(2)...), "daemon", daemonEvent()},
		{stored, "evict 16", evictEvent(16)},
		{stored, "evict 24", evictEvent(24)},
		{stored, "begin 0 sync", beginEvent(0, syncOp())},
		{stored, "begin 1 write /d/f 0 1 2 3 4", beginEvent(1, writeOp("/d/f", 0, 1, 2, 3, 4))},
		// What is wanted may have no end without a code: it begins all the same.
		{stored, "begin 1 drop /nobody", beginEvent(1, dropOp("/nobody"))},
	} {
		checkComes(t, c, came.events, came.line, came.event, "ok")
	}
	// Nothing is replied to whoever begins, crashes or comes up, though a note is made of it.
	events := someThings()
	for _, line := range []string{"begin 1 read /d/f", "crash 0 1"} {
		e := impl.EventOf(line).Event
		checkComes(t, c, events, line, e, "ok")
		events = append(events, e)
	}
	for !ran(t, c, events).Up {
		checkComes(t, c, events, "mount", mountEvent(), "ok")
		events = append(events, mountEvent())
	}
	checkLastNote(t, "up again", ran(t, c, events), upNote(2))
}

func TestWhatIsSaidOfAPick(t *testing.T) {
	c := smallConfig()
	picked := func(events []impl.Event, who int64, o impl.Op, said string) {
		t.Helper()
		begun := append(slices.Clone(events), beginEvent(who, o))
		checkComes(t, c, begun, "pick "+strconv.FormatInt(who, 10), pickEvent(who), said)
	}
	there := someThings()
	ops := map[string][]impl.Op{
		"yes 1 2 3 4 5 6 7 8": {readOp("/d/f")},
		"yes":                 {readOp("/e"), writeOp("/d/f", 1, 0, 0, 0, 0), makeFile("/g"), makeDir("/d/g"), cutOp("/d/f", 0), cutOp("/d/f", 2), moveOp("/e", "/d/e"), dropOp("/e"), dropOp("/d/f")},
		"yes d e":             {listOp("/")},
		"yes f":               {listOp("/d")},
		"no 1":                {readOp("/d"), listOp("/e"), dropOp("/"), cutOp("/d", 0), moveOp("/d", "/d/d")},
		"no 3":                {cutOp("/e", 1), writeOp("/d/f", 3, 1, 2, 3, 4)},
		"no 4":                {readOp("/f"), listOp("/f"), makeFile("/f/f"), dropOp("/d/g")},
		"no 6":                {makeDir("/d"), makeFile("/"), moveOp("/e", "/d")},
		"no 8":                {dropOp("/d")},
		"ok":                  {syncOp()},
	}
	for said, list := range ops {
		for _, o := range list {
			picked(there, 1, o, said)
		}
	}
	picked(append(slices.Clone(there), beginEvent(0, syncOp())), 1, listOp("/"), "yes d e")
	picked(nil, 0, listOp("/"), "yes")
	picked(doing(0, makeDir("/a")), 0, listOp("/a"), "yes")
	deep := impl.Config{Lines: 12, Threads: 2, Clock: 9998}
	checkComes(t, deep, []impl.Event{beginEvent(0, makeDir("/a"))}, "pick 0", pickEvent(0), "no 8")
	small := impl.Config{Lines: 4, Threads: 1, Clock: 2}
	checkComes(t, small, append(doing(0, makeDir("/a"), makeDir("/b"), makeDir("/c")), beginEvent(0, makeDir("/d"))), "pick 0", pickEvent(0), "no 7")
}

func TestAPickByWhichNoEndIsMade(t *testing.T) {
	c := smallConfig()
	// Of the full ring a line is flushed at first, and the op is done by the next pick.
	full := append(doing(0, makeDir("/d"), makeFile("/d/f"), writeOp("/d/f", 0, 1, 2, 3, 4), writeOp("/d/f", 1, 5, 6, 7, 8)), beginEvent(0, makeFile("/e")))
	checkComes(t, c, full, "pick 0", pickEvent(0), "ok")
	checkComes(t, c, append(full, pickEvent(0)), "pick 0", pickEvent(0), "yes")
	// A note ahead of the pick is none that it made.
	checkComes(t, c, append(full, beginEvent(1, readOp("/d/f")), pickEvent(1)), "pick 0", pickEvent(0), "ok")
	// A sync waits until its aim is sure.
	events := []impl.Event{beginEvent(0, syncOp())}
	for events = throughRound(c, events); ; events = append(events, daemonEvent()) {
		s := ran(t, c, events)
		if s.Sure >= 4 {
			break
		}
		checkComes(t, c, events, "pick 0", pickEvent(0), "ok")
		checkComes(t, c, append(slices.Clone(events), pickEvent(0)), "pick 0", pickEvent(0), "ok")
	}
	checkComes(t, c, events, "pick 0", pickEvent(0), "yes")
	checkNoStep(t, c, append(events, pickEvent(0)), "pick 0", impl.ErrState)
}

func TestTheLongestReplies(t *testing.T) {
	c := impl.Config{Lines: 41, Threads: 1, Clock: 2}
	events := doing(0, makeFile("/f"))
	for index := range int64(4) {
		events = append(events, doing(0, writeOp("/f", index, 9999, 9999, 9999, 9999))...)
		// The ring is full by then; what is done already by the first pick has a code for the others.
		events = append(events, pickEvent(0), pickEvent(0))
	}
	events = append(events, beginEvent(0, readOp("/f")))
	checkComes(t, c, events, "pick 0", pickEvent(0), "yes"+strings.Repeat(" 9999", 16))
	names := ""
	events = nil
	for i := range 40 {
		name := "zzzz" + string([]byte{'a' + byte(i/26), 'a' + byte(i%26)})
		names += " " + name
		events = append(events, doing(0, makeFile("/"+name))...)
		if i >= 6 {
			events = append(events, pickEvent(0))
		}
	}
	events = append(events, beginEvent(0, listOp("/")))
	checkComes(t, c, events, "pick 0", pickEvent(0), "yes"+names)
	checkSaid(t, c, events, "items", "40")
	checkSaid(t, c, events, "free", "0")
}

func TestEventsOfAnAnswerAreAllOfThemAsTheyWere(t *testing.T) {
	c := smallConfig()
	events := slices.Concat(someThings(), oneOfEachEvent(), make([]impl.Event, 2), []impl.Event{
		{Kind: 99, Who: -1, At: 1000, Fates: []int64{5, 6}, Op: impl.Op{Kind: -3, Path: "\xff", To: "x", Dir: true, Index: 77, Numbers: []int64{-1}}},
		crashEvent(slices.Repeat([]int64{1}, 50)...), mountEvent(), mountEvent(), mountEvent(), mountEvent(), mountEvent(),
	})
	if !ranWithCodes(t, c, events).Up {
		t.Fatal("it is not up")
	}
	checkSaid(t, c, events, "", "")
	checkSaid(t, c, events, "now", "2")
	checkComes(t, c, events, "begin 0 write /a 3 4 3 2 1", beginEvent(0, writeOp("/a", 3, 4, 3, 2, 1)), "ok")
	checkComes(t, c, events, "crash 1 0 0", crashEvent(1, 0, 0), "ok")
	// An event that is refused stands among them neither by itself nor by a code.
	checkNoStep(t, c, events, "mount", impl.ErrState)
}
