package tests

import (
	"slices"
	"strconv"
	"strings"
	"testing"

	"loop.example/g00691/impl"
)

// checkRun: of the script come these events, and this is said.
func checkRun(t *testing.T, c impl.Config, text string, events []impl.Event, said string) {
	t.Helper()
	checkScript(t, toldText(text), checkRunOf(t, c, text), impl.ScriptResult{Events: events, Said: said})
}

func checkNoRun(t *testing.T, c impl.Config, text string, code int64) {
	t.Helper()
	checkScript(t, toldText(text), checkRunOf(t, c, text), impl.ScriptResult{Code: code})
}

func TestTheConfigOfAScriptIsAskedAheadOfItsText(t *testing.T) {
	for c, code := range map[impl.Config]int64{
		{}:                                   impl.ErrMany,
		{Lines: 3, Threads: 9, Clock: 0}:     impl.ErrMany,
		{Lines: 42, Threads: 1, Clock: 2}:    impl.ErrMany,
		{Lines: 4, Threads: 0, Clock: 2}:     impl.ErrRange,
		{Lines: 41, Threads: 5, Clock: 2}:    impl.ErrRange,
		{Lines: 4, Threads: 1, Clock: 1}:     impl.ErrRange,
		{Lines: 4, Threads: 1, Clock: 10000}: impl.ErrRange,
	} {
		for _, text := range []string{"", "\n", "now", "foo\n", strings.Repeat(" ", 3001), strings.Repeat("\n", 41), strings.Repeat("now\n", 1000)} {
			checkNoRun(t, c, text, code)
		}
	}
}

func TestHowLongAScriptMayBe(t *testing.T) {
	c := smallConfig()
	for _, text := range []string{strings.Repeat(" ", 3000), strings.Repeat(" ", 2999) + "\n", "\n" + strings.Repeat(" ", 2999)} {
		checkRun(t, c, text, nil, "")
		checkNoRun(t, c, text+" ", impl.ErrMany)
		checkNoRun(t, c, text+"\n", impl.ErrMany)
	}
	checkRun(t, c, "now"+strings.Repeat(" ", 2997), nil, "2\n")
	checkNoRun(t, c, "now"+strings.Repeat(" ", 2998), impl.ErrMany)
	checkRun(t, c, strings.Repeat("a", 3000), nil, "! 5\n")
	checkNoRun(t, c, strings.Repeat("a", 3001), impl.ErrMany)
	// Bytes are counted, whatever they tell.
	checkRun(t, c, strings.Repeat("日", 1000), nil, "! 5\n")
	checkNoRun(t, c, strings.Repeat("日", 1001), impl.ErrMany)
	line := strings.Repeat(" ", 74) + "\n"
	checkRun(t, c, strings.Repeat(line, 40), nil, "")
	checkNoRun(t, c, strings.Repeat(line, 40)+"x", impl.ErrMany)
	checkNoRun(t, c, strings.Repeat("a", 1000000), impl.ErrMany)
	checkNoRun(t, c, strings.Repeat("now\n", 250000), impl.ErrMany)
}

func TestHowManyLinesAScriptMayHave(t *testing.T) {
	c := smallConfig()
	for line, said := range map[string]string{"": "", " ": "", "now": "2\n", "foo": "! 5\n", "mount": "! 8\n", "free": "11\n"} {
		for many := 1; many <= 40; many++ {
			text := strings.Repeat(line+"\n", many)
			checkRun(t, c, text, nil, strings.Repeat(said, many))
			// The last line has a line feed, or none.
			checkRun(t, c, strings.TrimSuffix(text, "\n"), nil, strings.Repeat(said, many))
		}
		for _, many := range []int{41, 42, 300} {
			checkNoRun(t, c, strings.Repeat(line+"\n", many), impl.ErrMany)
			checkNoRun(t, c, strings.Repeat(line+"\n", many-1)+"x", impl.ErrMany)
			checkNoRun(t, c, strings.Repeat(line+"\n", many-1)+" ", impl.ErrMany)
			checkNoRun(t, c, strings.Repeat("\n", many-1)+line+" \n", impl.ErrMany)
		}
	}
	checkRun(t, c, strings.Repeat("\n", 40), nil, "")
	checkRun(t, c, strings.Repeat("\n", 39)+"now", nil, "2\n")
	checkNoRun(t, c, strings.Repeat("\n", 40)+"now", impl.ErrMany)
	checkNoRun(t, c, strings.Repeat("\n", 41), impl.ErrMany)
	checkRun(t, c, strings.Repeat("daemon\n", 39)+"daemon", daemonSteps(40), strings.Repeat("ok\n", 40))
	checkNoRun(t, c, strings.Repeat("daemon\n", 40)+"daemon", impl.ErrMany)
}

func TestScriptsOfWhichNothingComes(t *testing.T) {
	c := smallConfig()
	for _, text := range []string{"", "\n", "\n\n\n", " ", " \n  \n", strings.Repeat("\n", 40)} {
		checkRun(t, c, text, nil, "")
	}
	checkRun(t, c, "now", nil, "2\n")
	checkRun(t, c, "\nnow\n\n\nsure\n \nfree", nil, "2\n2\n11\n")
	checkRun(t, c, "now\nnow now\nitems\nfair\nfoo\n\nfree", nil, "2\n! 5\n0\nyes\n! 5\n11\n")
	checkRun(t, impl.Config{Lines: 4, Threads: 1, Clock: 9999}, "daemon\nnow", nil, "! 8\n9999\n")
}

func TestOfALineWithACodeNoEventComes(t *testing.T) {
	c := smallConfig()
	making := doing(0, makeDir("/a"))
	checkRun(t, c, "begin 0 dir /a\nbegin 0 dir /b\npick 0\nitems", making, "ok\n! 8\nyes\n1\n")
	checkRun(t, c, "mount\nbegin 0 dir /a\nfoo\npick 1\npick 0\npick 0\nitems\n", making, "! 8\nok\n! 5\n! 8\nyes\n! 8\n1\n")
	checkRun(t, c, "begin 0 dir /a\ncrash 2\npick 4\nevict 96\nevict 95\nbegin 0 dir /a/b/c/d/e\npick 0", making, "ok\n! 3\n! 3\n! 3\n! 4\n! 2\nyes\n")
	checkRun(t, c, "foo\nbar", nil, "! 5\n! 5\n")
	checkRun(t, c, "foo", nil, "! 5\n")
	// What is refused is no reply: that has an event, and is said without a mark.
	checkRun(t, c, "begin 1 drop /a\npick 1\npick 1", doing(1, dropOp("/a")), "ok\nno 4\n! 8\n")
	// Each code that a line can have.
	codes := "mount\npick 0\nfoo\nbegin 2 sync\nevict 0\ncrash" + strings.Repeat(" 1", 41)
	checkRun(t, c, codes, nil, "! 8\n! 8\n! 5\n! 3\n! 4\n! 2\n")
}

func TestALineGoesOnFromTheEventsAheadOfIt(t *testing.T) {
	c := impl.Config{Lines: 8, Threads: 2, Clock: 2}
	events := doing(0, makeFile("/f"), writeOp("/f", 0, 1, 2, 3, 4))
	text := "begin 0 file /f\npick 0\nbegin 0 write /f 0 1 2 3 4\npick 0\n"
	said := "ok\nyes\nok\nyes\n"
	checkRun(t, c, text, events, said)
	checkRun(t, c, text+"begin 1 read /f\n\npick 1", slices.Concat(events, doing(1, readOp("/f"))), said+"ok\nyes 1 2 3 4\n")
	checkRun(t, c, text+"begin 1 list /\npick 1\nitems", slices.Concat(events, doing(1, listOp("/"))), said+"ok\nyes f\n1\n")
	for many := range 20 {
		steps := ranWithCodes(t, c, events, daemonSteps(many))
		want := said + strings.Repeat("ok\n", many) + strconv.FormatInt(steps.Now, 10) + "\n" + strconv.FormatInt(steps.Sure, 10) + "\n"
		checkRun(t, c, text+strings.Repeat("daemon\n", many)+"now\nsure\n", append(slices.Clone(events), daemonSteps(many)...), want)
	}
	down := slices.Concat(events, []impl.Event{crashEvent(1)}, mountSteps(1))
	checkRun(t, c, text+"crash 1\ndaemon\nnow\nmount\nitems", down, said+"ok\n! 8\n0\nok\n0\n")
}

func TestTheExampleOfAScript(t *testing.T) {
	c := impl.Config{Lines: 8, Threads: 2, Clock: 2}
	text := "begin 0 dir /a\npick 0\nitems\nfree\nbegin 1 file /a/f\npick 1\nbegin 0 write /a/f 0 1 2 3 4\npick 0\nbegin 1 read /a/f\npick 1\nbegin 0 list /a\npick 0\nbegin 0 drop /a\npick 0\nnow\nmount\ndaemon\ncrash\nnow\nmount\nmount\nsure\nitems\nfair\n\nfoo"
	events := slices.Concat(doing(0, makeDir("/a")), doing(1, makeFile("/a/f")), doing(0, writeOp("/a/f", 0, 1, 2, 3, 4)), doing(1, readOp("/a/f")), doing(0, listOp("/a"), dropOp("/a")), []impl.Event{daemonEvent(), crashEvent(), mountEvent(), mountEvent()})
	checkRun(t, c, text, events, "ok\nyes\n1\n6\nok\nyes\nok\nyes\nok\nyes 1 2 3 4\nok\nyes f\nok\nno 8\n2\n! 8\nok\nok\n0\nok\nok\n2\n0\nyes\n! 5\n")
}

func TestLineFeedsOfAScriptAreNoneOfItsLines(t *testing.T) {
	c := smallConfig()
	// A carriage return ahead of a line feed is a byte of the line like others.
	checkRun(t, c, "now\r\nsure\r", nil, "! 5\n! 5\n")
	checkRun(t, c, "daemon\r\ndaemon", daemonSteps(1), "! 5\nok\n")
	checkRun(t, c, "now\vnow\fnow\u0085now\u2028now", nil, "! 5\n")
	checkRun(t, c, " now \n\n  sure  \n", nil, "2\n2\n")
	checkRun(t, c, "now\x00\nnow", nil, "! 5\n2\n")
	checkRun(t, c, "\xff\nnow\n\xc3", nil, "! 5\n2\n! 5\n")
}

func TestScriptsAreStepsLineByLine(t *testing.T) {
	c := smallConfig()
	lines := []string{"begin 0 dir /a", "pick 0", "", "begin 1 file /a/f", "foo", "pick 1", "now", "crash 1 1 0", "pick 0", "items", "mount", "mount", "mount", "mount", "now now", "fair"}
	var events []impl.Event
	said := ""
	for _, line := range lines {
		step := impl.StepScript(c, events, line)
		if step.Code != 0 {
			said += "! " + strconv.FormatInt(step.Code, 10) + "\n"
			continue
		}
		events = step.Events
		if line != "" {
			said += step.Said + "\n"
		}
	}
	checkRun(t, c, strings.Join(lines, "\n"), events, said)
	if len(events) < 8 || strings.Count(said, "!") < 3 {
		t.Errorf("too little came of it: %d events, %q", len(events), said)
	}
}
