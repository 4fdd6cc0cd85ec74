package tests

import (
	"fmt"
	"regexp"
	"slices"
	"strings"
	"testing"

	"loop.example/g00691/impl"
)

// Scripts once more, written as plainly as the chapter: the forms are spelled as they stand there, and each step runs all events anew, to hold the program's answers against.

var numeral = regexp.MustCompile(`^(0|[1-9][0-9]{0,5})$`)

var nameOfReply = regexp.MustCompile(`^[a-z]{1,6}$`)

func wordsOfByRule(line string) impl.TextsResult {
	if len(line) > 3000 {
		return impl.TextsResult{Code: impl.ErrMany}
	}
	var words []string
	var word []byte
	for _, b := range append([]byte(line), 32) {
		switch {
		case b != 32:
			word = append(word, b)
		case len(word) > 0:
			words = append(words, string(word))
			word = nil
		}
	}
	return impl.TextsResult{Words: words}
}

func numberOfByRule(word string) impl.IntResult {
	if !numeral.MatchString(word) {
		return impl.IntResult{Code: impl.ErrText}
	}
	return impl.IntResult{Value: toldNumber(word)}
}

// toldNumber: of a numeral.
func toldNumber(word string) int64 {
	n := int64(0)
	for _, b := range []byte(word) {
		n = 10*n + int64(b) - 48
	}
	return n
}

func replyTextByRule(r impl.Reply) impl.TextResult {
	if r.Code < 0 || r.Code > 9 {
		return impl.TextResult{Code: impl.ErrRange}
	}
	if len(r.Numbers) > 16 || len(r.Names) > 60 {
		return impl.TextResult{Code: impl.ErrMany}
	}
	text := "yes"
	for _, n := range r.Numbers {
		if n < 0 || n > 9999 {
			return impl.TextResult{Code: impl.ErrRange}
		}
		text += fmt.Sprintf(" %d", n)
	}
	for _, name := range r.Names {
		if !nameOfReply.MatchString(name) {
			return impl.TextResult{Code: impl.ErrText}
		}
		text += " " + name
	}
	if r.Code != 0 {
		text = fmt.Sprintf("no %d", r.Code)
	}
	return impl.TextResult{Text: text}
}

// opLines: the forms of ops as the chapter has them.
func opLines() []string {
	return []string{"dir P", "file P", "write P N N N N N", "cut P N", "drop P", "move P Q", "read P", "list P", "sync"}
}

func fitsForm(form string, words []string) bool {
	return slices.EqualFunc(strings.Split(form, " "), words, func(part string, word string) bool {
		switch part {
		case "P", "Q":
			return true
		case "N":
			return numeral.MatchString(word)
		}
		return part == word
	})
}

func opOfByRule(words []string) impl.OpResult {
	if len(words) > 20 {
		return impl.OpResult{Code: impl.ErrMany}
	}
	at := slices.IndexFunc(opLines(), func(form string) bool { return fitsForm(form, words) })
	if at < 0 {
		return impl.OpResult{Code: impl.ErrText}
	}
	o := impl.Op{Kind: []int64{1, 1, 2, 3, 4, 5, 6, 7, 8}[at], Dir: words[0] == "dir"}
	if len(words) > 1 {
		o.Path = words[1]
	}
	switch words[0] {
	case "move":
		o.To = words[2]
	case "cut", "write":
		o.Index = toldNumber(words[2])
		for _, word := range words[3:] {
			o.Numbers = append(o.Numbers, toldNumber(word))
		}
	}
	if code := opFaultByRule(o); code != 0 {
		return impl.OpResult{Code: code}
	}
	return impl.OpResult{Op: o}
}

// readByTheForms: the event that the words tell, with the code of its op; not, where they are of no form.
func readByTheForms(words []string) (impl.Event, int64, bool) {
	switch {
	case len(words) >= 2 && fitsForm("begin N", words[:2]):
		op := opOfByRule(words[2:])
		return impl.Event{Kind: 1, Who: toldNumber(words[1]), Op: op.Op}, op.Code, true
	case fitsForm("pick N", words):
		return impl.Event{Kind: 2, Who: toldNumber(words[1])}, 0, true
	case fitsForm("daemon", words):
		return impl.Event{Kind: 3}, 0, true
	case fitsForm("evict N", words):
		return impl.Event{Kind: 4, At: toldNumber(words[1])}, 0, true
	case fitsForm("mount", words):
		return impl.Event{Kind: 6}, 0, true
	case len(words) >= 1 && fitsForm("crash"+strings.Repeat(" N", len(words)-1), words):
		e := impl.Event{Kind: 5}
		for _, word := range words[1:] {
			e.Fates = append(e.Fates, toldNumber(word))
		}
		return e, 0, true
	}
	return impl.Event{}, 0, false
}

func eventOfByRule(line string) impl.EventResult {
	words := wordsOfByRule(line)
	if words.Code != 0 {
		return impl.EventResult{Code: words.Code}
	}
	e, code, isForm := readByTheForms(words.Words)
	if !isForm {
		return impl.EventResult{Code: impl.ErrText}
	}
	if code == 0 {
		code = eventFaultByRule(e)
	}
	if code != 0 {
		return impl.EventResult{Code: code}
	}
	return impl.EventResult{Event: e}
}

// askedByRule: what is said of a word that asks, if it is one.
func askedByRule(word string, s impl.State) (string, bool) {
	switch word {
	case "now":
		return fmt.Sprint(s.Now), true
	case "sure":
		return fmt.Sprint(s.Sure), true
	case "free":
		return fmt.Sprint(s.Free), true
	case "items":
		return fmt.Sprint(len(s.Items)), true
	case "fair":
		return map[bool]string{true: "yes", false: "no"}[isExplainedByRule(s.Notes)], true
	}
	return "", false
}

func stepByRule(c impl.Config, events []impl.Event, line string) impl.ScriptResult {
	ahead := runWorldByRule(c, events)
	if ahead.Code != 0 {
		return impl.ScriptResult{Code: ahead.Code}
	}
	if strings.IndexByte(line, 10) >= 0 {
		return impl.ScriptResult{Code: impl.ErrText}
	}
	words := wordsOfByRule(line)
	if words.Code != 0 {
		return impl.ScriptResult{Code: words.Code}
	}
	if len(words.Words) == 0 {
		return impl.ScriptResult{Events: events}
	}
	if said, asks := askedByRule(words.Words[0], ahead.State); asks && len(words.Words) == 1 {
		return impl.ScriptResult{Events: events, Said: said}
	}
	read := eventOfByRule(line)
	if read.Code != 0 {
		return impl.ScriptResult{Code: read.Code}
	}
	if len(events) >= 200 {
		return impl.ScriptResult{Code: impl.ErrFull}
	}
	all := append(slices.Clone(events), read.Event)
	behind := runWorldByRule(c, all).State
	if code := behind.Codes[len(all)-1]; code != 0 {
		return impl.ScriptResult{Code: code}
	}
	said := "ok"
	for _, n := range behind.Notes[len(ahead.State.Notes):] {
		if read.Event.Kind == 2 && n.Kind == 2 {
			said = replyTextByRule(n.Reply).Text
		}
	}
	return impl.ScriptResult{Events: all, Said: said}
}

func linesByRule(text string) []string {
	all := strings.Split(text, "\n")
	if last := len(all) - 1; all[last] == "" {
		all = all[:last]
	}
	return all
}

func runScriptByRule(c impl.Config, text string) impl.ScriptResult {
	if code := configFaultByRule(c); code != 0 {
		return impl.ScriptResult{Code: code}
	}
	if len(text) > 3000 || len(linesByRule(text)) > 40 {
		return impl.ScriptResult{Code: impl.ErrMany}
	}
	var all impl.ScriptResult
	for _, line := range linesByRule(text) {
		step := stepByRule(c, all.Events, line)
		switch {
		case step.Code != 0:
			all.Said += fmt.Sprintf("! %d\n", step.Code)
		case step.Said != "":
			all.Said += step.Said + "\n"
		}
		if step.Code == 0 {
			all.Events = step.Events
		}
	}
	return all
}

func sameEventByRule(a impl.Event, b impl.Event) bool {
	return a.Kind == b.Kind && a.Who == b.Who && a.At == b.At && slices.Equal(a.Fates, b.Fates) && sameOpByRule(a.Op, b.Op)
}

func sameScripts(a impl.ScriptResult, b impl.ScriptResult) bool {
	return a.Code == b.Code && a.Said == b.Said && slices.EqualFunc(a.Events, b.Events, sameEventByRule)
}

// toldText: a text that is not too long to be read.
func toldText(text string) string {
	return fmt.Sprintf("%q of %d bytes", text[:min(len(text), 300)], len(text))
}

func checkWordsOf(t *testing.T, line string, want impl.TextsResult) {
	t.Helper()
	if got := impl.WordsOf(line); got.Code != want.Code || !slices.Equal(got.Words, want.Words) {
		t.Fatalf("WordsOf of %s = %d, %q, want %d, %q", toldText(line), got.Code, got.Words, want.Code, want.Words)
	}
}

func checkNumberOf(t *testing.T, word string, want impl.IntResult) {
	t.Helper()
	if got := impl.NumberOf(word); got != want {
		t.Fatalf("NumberOf of %s = %+v, want %+v", toldText(word), got, want)
	}
}

func checkReplyText(t *testing.T, r impl.Reply, want impl.TextResult) {
	t.Helper()
	if got := impl.ReplyText(r); got != want {
		t.Fatalf("ReplyText of the Code %d, %d Numbers and %d Names = %+v, want %+v", r.Code, len(r.Numbers), len(r.Names), got, want)
	}
}

func checkOpOf(t *testing.T, words []string, want impl.OpResult) {
	t.Helper()
	if got := impl.OpOf(words); got.Code != want.Code || !sameOpByRule(got.Op, want.Op) {
		t.Fatalf("OpOf of %d words, %s, = %+v, want %+v", len(words), toldText(strings.Join(words[:min(len(words), 30)], "|")), got, want)
	}
}

func checkEventOf(t *testing.T, line string, want impl.EventResult) {
	t.Helper()
	if got := impl.EventOf(line); got.Code != want.Code || !sameEventByRule(got.Event, want.Event) {
		t.Fatalf("EventOf of %s = %+v, want %+v", toldText(line), got, want)
	}
}

func checkScript(t *testing.T, what string, got impl.ScriptResult, want impl.ScriptResult) {
	t.Helper()
	if !sameScripts(got, want) {
		t.Fatalf("%s:\ngot  %d, said %s, %d events %+v\nwant %d, said %s, %d events %+v", what, got.Code, toldText(got.Said), len(got.Events), got.Events, want.Code, toldText(want.Said), len(want.Events), want.Events)
	}
}

// checkStep holds a step against the rule, and answers what comes of it.
func checkStep(t *testing.T, asked askedWorld, line string) impl.ScriptResult {
	t.Helper()
	got := impl.StepScript(asked.config, asked.events, line)
	checkScript(t, fmt.Sprintf("%s behind %d events of %+v", toldText(line), len(asked.events), asked.config), got, stepByRule(asked.config, asked.events, line))
	return got
}

// checkRunOf holds a script against the rule, and answers what comes of it.
func checkRunOf(t *testing.T, c impl.Config, text string) impl.ScriptResult {
	t.Helper()
	got := impl.RunScript(c, text)
	checkScript(t, fmt.Sprintf("%s of %+v", toldText(text), c), got, runScriptByRule(c, text))
	return got
}
