package tests

import (
	"math/rand"
	"slices"
	"strconv"
	"strings"
	"testing"

	"loop.example/g00691/impl"
)

// Lines and scripts by chance from a seed.

// anyPathToTell is one of a name that is any, so that all letters come.
func anyPathToTell(r *rand.Rand) string {
	if r.Intn(12) == 0 {
		return "/"
	}
	path := ""
	for range 1 + r.Intn(4) {
		path += "/" + anyName(r)
	}
	return path
}

// anyOpToTell has no fault.
func anyOpToTell(r *rand.Rand) impl.Op {
	o := impl.Op{Kind: 1 + r.Int63n(8)}
	if o.Kind != impl.OpSync {
		o.Path = anyPathToTell(r)
	}
	switch o.Kind {
	case impl.OpMake:
		o.Dir = r.Intn(2) == 0
	case impl.OpWrite:
		o.Index, o.Numbers = r.Int63n(4), anyPiece(r)
	case impl.OpCut:
		o.Index = r.Int63n(5)
	case impl.OpMove:
		o.To = anyPathToTell(r)
	}
	return o
}

// anyEventToTell has no fault.
func anyEventToTell(r *rand.Rand) impl.Event {
	switch r.Intn(8) {
	case 0:
		return pickEvent(r.Int63n(4))
	case 1:
		return daemonEvent()
	case 2:
		return evictEvent(r.Int63n(328))
	case 3:
		return crashEvent(anyFates(r, r.Intn(41))...)
	case 4:
		return mountEvent()
	}
	return beginEvent(r.Int63n(4), anyOpToTell(r))
}

// withBlanks: the same words, with any number of blanks between, ahead and behind.
func withBlanks(r *rand.Rand, line string) string {
	wide := strings.Repeat(" ", r.Intn(3))
	for _, word := range strings.Split(line, " ") {
		wide += word + strings.Repeat(" ", 1+r.Intn(3))
	}
	return wide
}

func anyWrongWord(r *rand.Rand) string {
	words := []string{"0", "1", "3", "4", "9", "00", "01", "-1", "10000", "327", "328", "999999", "1000000", "x", "", "/", "/a", "a", "/a/b/c/d/e", "sync", "dir", "begin", "pick", "crash", "now", "fair", "daemon", "\t", "\n", "\xff", "日"}
	return words[r.Intn(len(words))]
}

// spoiltLine: another line, which may be right, too.
func spoiltLine(r *rand.Rand, line string) string {
	words := strings.Split(line, " ")
	at := r.Intn(len(words))
	switch r.Intn(10) {
	case 0, 1:
		words[at] = anyWrongWord(r)
	case 2:
		words = slices.Delete(words, at, at+1)
	case 3:
		words = slices.Insert(words, at, anyWrongWord(r))
	case 4:
		words = append(words, anyWrongWord(r))
	case 5:
		words[at] = "0" + words[at]
	case 6:
		words[at] = strings.ToUpper(words[at])
	case 7:
		words = append(words, slices.Repeat([]string{anyWrongWord(r)}, []int{12, 18, 19, 20, 21, 40, 41}[r.Intn(7)])...)
	case 8:
		bytes := []byte(line)
		if len(bytes) > 0 {
			bytes[r.Intn(len(bytes))] = byte(r.Intn(256))
		}
		return string(bytes)
	case 9:
		return line + strings.Repeat(" ", max(0, 2999+r.Intn(4)-len(line)))
	}
	return strings.Join(words, " ")
}

// anyAsking: whoever begins wants to read or to list something, most often of what there is.
func anyAsking(r *rand.Rand, e impl.Event, items []impl.Item) impl.Event {
	if e.Kind == impl.EvBegin {
		e.Op = []impl.Op{readOp(fileNear(r, items)), listOp("/"), listOp(pathNear(r, items))}[r.Intn(3)]
	}
	return e
}

// anyLineFor: a line for the world that there is: what asks, what happens, or what is spoilt.
func anyLineFor(r *rand.Rand, m mood, w *worldByRule) string {
	at := r.Intn(12)
	e := m.anyEvent(r, w)
	switch at {
	case 0:
		return questionWords()[r.Intn(5)]
	case 1:
		e = anyEventToTell(r)
	case 2, 3, 6:
		e = anyAsking(r, e, w.items())
	}
	if eventFaultByRule(e) != 0 {
		return anyWrongWord(r)
	}
	line := lineOfEvent(e)
	switch at {
	case 4:
		return spoiltLine(r, line)
	case 5:
		return withBlanks(r, line)
	}
	return line
}

// anyLines: each of them is for the world that there is behind those ahead of it.
func anyLines(r *rand.Rand, c impl.Config, many int) []string {
	m := anyMood(r)
	w := newWorldByRule(c)
	var lines []string
	for range many {
		line := strings.ReplaceAll(anyLineFor(r, m, w), "\n", "\t")
		if e := eventOfByRule(line); e.Code == 0 {
			w.take(e.Event)
		}
		lines = append(lines, line)
		if r.Intn(30) == 0 {
			lines = append(lines, strings.Repeat(" ", r.Intn(2)))
		}
	}
	return lines
}

// anyScript may have some lines or some bytes too many.
func anyScript(r *rand.Rand, c impl.Config) string {
	lines := anyLines(r, c, r.Intn(42))
	if r.Intn(3) > 0 {
		lines = anyLines(r, c, 40)[:39+r.Intn(2)]
	}
	text := ""
	for _, line := range lines {
		// One that was made as long as a line may be leaves no room for the others.
		if len(text)+len(line) < 3000 || r.Intn(30) == 0 {
			text += line + "\n"
		}
	}
	if r.Intn(2) == 0 {
		text = strings.TrimSuffix(text, "\n")
	}
	if r.Intn(20) == 0 {
		text += strings.Repeat([]string{"\n", " "}[r.Intn(2)], r.Intn(3000))
	}
	return text
}

func TestAnyOpIsReadBackFromTheWordsThatTellIt(t *testing.T) {
	r := rand.New(rand.NewSource(81))
	kinds := map[int64]int{}
	for range 20000 {
		o := anyOpToTell(r)
		if impl.OpFault(o) != 0 {
			t.Fatalf("%+v has a fault", o)
		}
		checkOpOf(t, wordsOfOp(o), impl.OpResult{Op: o})
		kinds[o.Kind]++
	}
	checkSeen(t, kinds, 1, 2, 3, 4, 5, 6, 7, 8)
}

func TestAnyEventIsReadBackFromTheLineThatTellsIt(t *testing.T) {
	r := rand.New(rand.NewSource(82))
	kinds := map[int64]int{}
	for range 20000 {
		e := anyEventToTell(r)
		if impl.EventFault(e) != 0 {
			t.Fatalf("%+v has a fault", e)
		}
		checkEventOf(t, lineOfEvent(e), impl.EventResult{Event: e})
		checkEventOf(t, withBlanks(r, lineOfEvent(e)), impl.EventResult{Event: e})
		kinds[e.Kind]++
	}
	checkSeen(t, kinds, 1, 2, 3, 4, 5, 6)
}

func TestAnySpoiltLineIsReadAsTheDocumentTells(t *testing.T) {
	r := rand.New(rand.NewSource(83))
	events, ops := map[int64]int{}, map[int64]int{}
	for range 20000 {
		line := lineOfEvent(anyEventToTell(r))
		for range 1 + r.Intn(2) {
			line = spoiltLine(r, line)
		}
		want := eventOfByRule(line)
		checkEventOf(t, line, want)
		events[want.Code]++
		words := wordsOfByRule(line)
		checkWordsOf(t, line, words)
		for _, word := range words.Words {
			checkNumberOf(t, word, numberOfByRule(word))
		}
		told := strings.Split(spoiltLine(r, strings.Join(wordsOfOp(anyOpToTell(r)), " ")), " ")
		op := opOfByRule(told)
		checkOpOf(t, told, op)
		ops[op.Code]++
	}
	checkSeen(t, events, impl.OK, impl.ErrText, impl.ErrMany, impl.ErrRange)
	checkSeen(t, ops, impl.OK, impl.ErrText, impl.ErrMany, impl.ErrRange)
}

func TestAnyReplyIsToldAsTheDocumentTells(t *testing.T) {
	r := rand.New(rand.NewSource(84))
	seen := map[int64]int{}
	for range 5000 {
		reply := impl.Reply{Code: max(0, r.Int63n(20)-10)}
		for range r.Intn(18) {
			reply.Numbers = append(reply.Numbers, r.Int63n(10000))
		}
		for range r.Intn(1 + r.Intn(62)) {
			reply.Names = append(reply.Names, anyName(r))
		}
		if r.Intn(3) == 0 {
			reply = spoiltNote(r, repliedNote(syncOp(), reply)).Reply
		}
		want := replyTextByRule(reply)
		checkReplyText(t, reply, want)
		seen[want.Code]++
	}
	checkSeen(t, seen, impl.OK, impl.ErrRange, impl.ErrMany, impl.ErrText)
}

// checkRelations: what is said is what RunWorld and IsExplained tell, and what comes is what RunWorld has no code for.
func checkRelations(t *testing.T, asked askedWorld, line string, got impl.ScriptResult) {
	t.Helper()
	s := ranWithCodes(t, asked.config, asked.events)
	said := map[string]string{
		"now": strconv.FormatInt(s.Now, 10), "sure": strconv.FormatInt(s.Sure, 10), "free": strconv.FormatInt(s.Free, 10), "items": strconv.Itoa(len(s.Items)),
		"fair": map[bool]string{true: "yes", false: "no"}[impl.IsExplained(s.Notes)],
	}
	if answer, asks := said[line]; asks {
		checkScript(t, line, got, impl.ScriptResult{Events: asked.events, Said: answer})
		return
	}
	read := impl.EventOf(line)
	if strings.Contains(line, "\n") || read.Code != 0 || len(asked.events) == impl.MaxEvents {
		return
	}
	all := append(slices.Clone(asked.events), read.Event)
	behind := ranWithCodes(t, asked.config, all)
	if code := behind.Codes[len(all)-1]; code != 0 {
		checkScript(t, line, got, impl.ScriptResult{Code: code})
		return
	}
	want := impl.ScriptResult{Events: all, Said: "ok"}
	if last := len(behind.Notes) - 1; read.Event.Kind == impl.EvPick && last >= len(s.Notes) {
		want.Said = impl.ReplyText(behind.Notes[last].Reply).Text
	}
	checkScript(t, line, got, want)
}

func TestAnyLineBehindAnyEventsIsDoneAsTheDocumentTells(t *testing.T) {
	r := rand.New(rand.NewSource(85))
	codes, replies := map[int64]int{}, map[string]int{}
	for range 400 {
		asked := auditWorld(r, r.Intn(150))
		if r.Intn(6) == 0 {
			asked = anyWorld(r, 194+r.Intn(7))
		}
		w, _ := behindByRule(asked.config, asked.events)
		m := anyMood(r)
		for range 8 {
			line := anyLineFor(r, m, w)
			got := checkStep(t, asked, line)
			checkRelations(t, asked, line, got)
			codes[got.Code]++
			// Each line that has no code is one of those ahead of the next one.
			if got.Code == 0 {
				asked.events = got.Events
				w, _ = behindByRule(asked.config, asked.events)
			}
			first, _, more := strings.Cut(got.Said, " ")
			if !more {
				first += "."
			}
			replies[first]++
		}
		for _, word := range questionWords() {
			checkRelations(t, asked, word, impl.StepScript(asked.config, asked.events, word))
		}
	}
	checkSeen(t, codes, impl.OK, impl.ErrRange, impl.ErrNone, impl.ErrText, impl.ErrFull, impl.ErrState)
	if replies["ok."] < 200 || replies["yes."] < 50 || replies["yes"] < 15 || replies["no"] < 20 {
		t.Errorf("too few replies of a kind: %v", replies)
	}
}

func TestAnyScriptIsDoneAsTheDocumentTells(t *testing.T) {
	r := rand.New(rand.NewSource(86))
	codes, said, events := map[int64]int{}, map[string]int{}, 0
	for range 250 {
		c := anyConfig(r)
		text := anyScript(r, c)
		if r.Intn(15) == 0 {
			c.Threads = 5
		}
		got := checkRunOf(t, c, text)
		codes[got.Code]++
		events += len(got.Events)
		for _, line := range strings.Split(got.Said, "\n") {
			first, _, _ := strings.Cut(line, " ")
			said[first]++
		}
	}
	if codes[impl.OK] < 150 || codes[impl.ErrMany] < 5 || codes[impl.ErrRange] < 10 || events < 2500 {
		t.Errorf("the codes are %v, and %d events have come", codes, events)
	}
	if said["ok"] < 2000 || said["yes"] < 300 || said["no"] < 100 || said["!"] < 300 {
		t.Errorf("too little was said of a kind: %v", said)
	}
}

func TestAnyScriptIsItsStepsLineByLine(t *testing.T) {
	r := rand.New(rand.NewSource(87))
	events := 0
	for range 300 {
		c := anyConfig(r)
		lines := anyLines(r, c, r.Intn(38))
		text := strings.Join(lines, "\n")
		if len(text) >= 3000 || len(lines) > 40 {
			continue
		}
		var want impl.ScriptResult
		for _, line := range lines {
			step := impl.StepScript(c, want.Events, line)
			if step.Code != 0 {
				want.Said += "! " + strconv.FormatInt(step.Code, 10) + "\n"
				continue
			}
			want.Events = step.Events
			if step.Said != "" {
				want.Said += step.Said + "\n"
			}
		}
		checkScript(t, toldText(text), impl.RunScript(c, text), want)
		checkScript(t, toldText(text), impl.RunScript(c, text+"\n"), want)
		// What comes of a script is a world whose events have no code.
		ran(t, c, want.Events)
		events += len(want.Events)
	}
	if events < 2500 {
		t.Errorf("only %d events have come", events)
	}
}
