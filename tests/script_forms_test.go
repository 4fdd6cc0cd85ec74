package tests

import (
	"math"
	"slices"
	"strconv"
	"strings"
	"testing"

	"loop.example/g00691/impl"
)

// wordsOfOp: the words by which the chapter tells an op without a fault.
func wordsOfOp(o impl.Op) []string {
	words := []string{map[int64]string{1: "file", 2: "write", 3: "cut", 4: "drop", 5: "move", 6: "read", 7: "list", 8: "sync"}[o.Kind]}
	if o.Dir {
		words[0] = "dir"
	}
	if o.Kind != impl.OpSync {
		words = append(words, o.Path)
	}
	if o.Kind == impl.OpMove {
		words = append(words, o.To)
	}
	if o.Kind == impl.OpWrite || o.Kind == impl.OpCut {
		words = append(words, strconv.FormatInt(o.Index, 10))
	}
	return append(words, wordsOfNumbers(o.Numbers)...)
}

func wordsOfNumbers(list []int64) []string {
	var words []string
	for _, n := range list {
		words = append(words, strconv.FormatInt(n, 10))
	}
	return words
}

// wordsOfEvent: of one of a kind that there is.
func wordsOfEvent(e impl.Event) []string {
	words := []string{map[int64]string{1: "begin", 2: "pick", 3: "daemon", 4: "evict", 5: "crash", 6: "mount"}[e.Kind]}
	switch e.Kind {
	case impl.EvBegin:
		return append(append(words, wordsOfNumbers([]int64{e.Who})...), wordsOfOp(e.Op)...)
	case impl.EvPick:
		return append(words, wordsOfNumbers([]int64{e.Who})...)
	case impl.EvEvict:
		return append(words, wordsOfNumbers([]int64{e.At})...)
	}
	return append(words, wordsOfNumbers(e.Fates)...)
}

func lineOfEvent(e impl.Event) string {
	return strings.Join(wordsOfEvent(e), " ")
}

// formOps: each form by its words, and the op that it tells.
func formOps() map[string]impl.Op {
	return map[string]impl.Op{
		"dir /a":                            makeDir("/a"),
		"dir /":                             makeDir("/"),
		"dir /a/b/c/d":                      makeDir("/a/b/c/d"),
		"file /a":                           makeFile("/a"),
		"file /dir":                         makeFile("/dir"),
		"write /a 0 1 2 3 4":                writeOp("/a", 0, 1, 2, 3, 4),
		"write /b 3 0 9999 0 10":            writeOp("/b", 3, 0, 9999, 0, 10),
		"cut /a 0":                          cutOp("/a", 0),
		"cut /a/f 1":                        cutOp("/a/f", 1),
		"cut /a 4":                          cutOp("/a", 4),
		"drop /a":                           dropOp("/a"),
		"drop /":                            dropOp("/"),
		"move /a /b":                        moveOp("/a", "/b"),
		"move / /abcdef/zzzzzz":             moveOp("/", "/abcdef/zzzzzz"),
		"read /a":                           readOp("/a"),
		"list /":                            listOp("/"),
		"list /list":                        listOp("/list"),
		"sync":                              syncOp(),
		"move /abcdef/b/c/d /abcdef/b/c/dd": moveOp("/abcdef/b/c/d", "/abcdef/b/c/dd"),
	}
}

func noOp(code int64) impl.OpResult {
	return impl.OpResult{Code: code}
}

func TestEachFormOfAnOp(t *testing.T) {
	for line, o := range formOps() {
		words := strings.Split(line, " ")
		checkOpOf(t, words, impl.OpResult{Op: o})
		checkOpOf(t, words, opOfByRule(words))
		if got := wordsOfOp(o); !slices.Equal(got, words) {
			t.Errorf("%+v is told by %q, not by %q", o, got, words)
		}
	}
	// They differ in Dir alone.
	dir, file := impl.OpOf([]string{"dir", "/a"}).Op, impl.OpOf([]string{"file", "/a"}).Op
	if !dir.Dir || file.Dir || dir.Kind != impl.OpMake || file.Kind != impl.OpMake || dir.Path != file.Path {
		t.Errorf("a directory is made by %+v, a file by %+v", dir, file)
	}
}

func TestOpsThatAreToldByTooFewOrTooManyWords(t *testing.T) {
	for line := range formOps() {
		words := strings.Split(line, " ")
		for many := range len(words) {
			checkOpOf(t, words[:many], noOp(impl.ErrText))
		}
		for _, more := range []string{"0", "1", "/b", "", " ", "sync", "x"} {
			checkOpOf(t, append(slices.Clone(words), more), noOp(impl.ErrText))
			checkOpOf(t, append([]string{more}, words...), noOp(impl.ErrText))
		}
		checkOpOf(t, slices.Concat(words, words), noOp(impl.ErrText))
	}
	checkOpOf(t, nil, noOp(impl.ErrText))
	checkOpOf(t, []string{}, noOp(impl.ErrText))
}

func TestHowManyWordsAnOpMayHave(t *testing.T) {
	for _, word := range []string{"", "sync", "dir", "1", "/a"} {
		for _, many := range []int{19, 20} {
			checkOpOf(t, slices.Repeat([]string{word}, many), noOp(impl.ErrText))
		}
		for _, many := range []int{21, 22, 100000} {
			checkOpOf(t, slices.Repeat([]string{word}, many), noOp(impl.ErrMany))
		}
	}
	write := []string{"write", "/a", "0", "1", "2", "3", "4"}
	checkOpOf(t, append(write, slices.Repeat([]string{"5"}, 13)...), noOp(impl.ErrText))
	checkOpOf(t, append(write, slices.Repeat([]string{"5"}, 14)...), noOp(impl.ErrMany))
}

func TestNumbersOfOpsThatAreNone(t *testing.T) {
	for line := range formOps() {
		words := strings.Split(line, " ")
		for place := 2; place < len(words); place++ {
			if words[0] != "write" && words[0] != "cut" {
				continue
			}
			for _, word := range append(notNumerals(), "0"+words[place], words[place]+" ", "1000000", "/a") {
				other := slices.Clone(words)
				other[place] = word
				checkOpOf(t, other, noOp(impl.ErrText))
				// What is no form is asked ahead of what the op is.
				other[1] = "/a/b/c/d/e"
				checkOpOf(t, other, noOp(impl.ErrText))
			}
		}
	}
}

func TestFirstWordsOfOpsThatAreNone(t *testing.T) {
	for line := range formOps() {
		words := strings.Split(line, " ")
		first := words[0]
		for _, other := range []string{strings.ToUpper(first), strings.ToUpper(first[:1]) + first[1:], first + "s", first[1:], " " + first, first + " ", first + "\n", "", "make", "/a", "begin", "now"} {
			checkOpOf(t, append([]string{other}, words[1:]...), noOp(impl.ErrText))
		}
	}
}

func TestTheFaultsOfOpsThatAreTold(t *testing.T) {
	for line, code := range map[string]int64{
		"dir a": impl.ErrText, "dir /A": impl.ErrText, "dir //": impl.ErrText, "dir /a/": impl.ErrText, "file 0": impl.ErrText, "file /abcdefg": impl.ErrText, "drop dir": impl.ErrText,
		"dir /a/b/c/d/e": impl.ErrMany, "file /a/b/c/d/e": impl.ErrMany, "read /a/a/a/a/a": impl.ErrMany, "list /a/b/c/d/e/f": impl.ErrMany, "drop /a/b/c/d/e": impl.ErrMany,
		"cut /a 5": impl.ErrRange, "cut /a 999999": impl.ErrRange, "cut a 5": impl.ErrText, "cut /a/b/c/d/e 5": impl.ErrMany,
		"write /a 4 1 2 3 4": impl.ErrRange, "write /a 999999 1 2 3 4": impl.ErrRange, "write /a 0 10000 2 3 4": impl.ErrRange, "write /a 3 1 2 3 10000": impl.ErrRange, "write /a 0 1 999999 3 4": impl.ErrRange,
		"write a 4 10000 2 3 4": impl.ErrText, "write /a/b/c/d/e 4 1 2 3 4": impl.ErrMany, "write /a 4 10000 2 3 4": impl.ErrRange,
		"move a /b": impl.ErrText, "move /a b": impl.ErrText, "move /a /a/b/c/d/e": impl.ErrMany, "move /a/b/c/d/e /a": impl.ErrMany, "move a /a/b/c/d/e": impl.ErrText, "move /a/b/c/d/e b": impl.ErrMany,
	} {
		words := strings.Split(line, " ")
		checkOpOf(t, words, noOp(code))
		checkOpOf(t, words, opOfByRule(words))
		checkEventOf(t, "begin 0 "+line, impl.EventResult{Code: code})
	}
	// Any words may stand for the paths, also such as no line tells.
	for _, path := range []string{"", " ", "/ ", "/a b", "/a\n", "/\xff", "\x00", "/ä", strings.Repeat("a", 1000000)} {
		checkOpOf(t, []string{"dir", path}, noOp(impl.ErrText))
		checkOpOf(t, []string{"move", "/a", path}, noOp(impl.ErrText))
		checkOpOf(t, []string{"write", path, "9", "1", "2", "3", "10000"}, noOp(impl.ErrText))
	}
	checkOpOf(t, []string{"read", strings.Repeat("/a", 100000)}, noOp(impl.ErrMany))
}

func noEvent(code int64) impl.EventResult {
	return impl.EventResult{Code: code}
}

// formEvents: each form by its line, and the event that it tells.
func formEvents() map[string]impl.Event {
	all := map[string]impl.Event{
		"pick 0": pickEvent(0), "pick 3": pickEvent(3), "daemon": daemonEvent(), "mount": mountEvent(),
		"evict 0": evictEvent(0), "evict 10": evictEvent(10), "evict 327": evictEvent(327),
		"crash": crashEvent(), "crash 0": crashEvent(0), "crash 1": crashEvent(1), "crash 1 0 1": crashEvent(1, 0, 1), "crash 0 0 0 0 0 0 0 0 0 1": crashEvent(0, 0, 0, 0, 0, 0, 0, 0, 0, 1),
		"crash" + strings.Repeat(" 1", 40): crashEvent(slices.Repeat([]int64{1}, 40)...),
	}
	for line, o := range formOps() {
		all["begin 0 "+line] = beginEvent(0, o)
		all["begin 3 "+line] = beginEvent(3, o)
	}
	return all
}

func TestEachFormOfAnEvent(t *testing.T) {
	for line, e := range formEvents() {
		checkEventOf(t, line, impl.EventResult{Event: e})
		checkEventOf(t, line, eventOfByRule(line))
		if got := lineOfEvent(e); got != line {
			t.Errorf("%+v is told by %q, not by %q", e, got, line)
		}
		// How many blanks there are does not matter.
		checkEventOf(t, "  "+strings.ReplaceAll(line, " ", "   ")+" ", impl.EventResult{Event: e})
		// Other bytes are no blanks.
		for _, other := range []string{"\t", "\n", "\r", "\u00a0", "\x00"} {
			checkEventOf(t, line+other, eventOfByRule(line+other))
			checkEventOf(t, other+line, noEvent(impl.ErrText))
		}
		checkEventOf(t, line+" \t", noEvent(impl.ErrText))
	}
}

func TestEventsThatAreToldByTooFewOrTooManyWords(t *testing.T) {
	for line := range formEvents() {
		words := strings.Split(line, " ")
		for many := range len(words) {
			// A crash has any numbers, so it is told by fewer words, too.
			if words[0] != "crash" || many == 0 {
				checkEventOf(t, strings.Join(words[:many], " "), noEvent(impl.ErrText))
			}
		}
		for _, more := range []string{"0", "1", "x", "/b", "daemon", "01"} {
			checkEventOf(t, line+" "+more, eventOfByRule(line+" "+more))
			if words[0] != "crash" {
				checkEventOf(t, line+" "+more, noEvent(impl.ErrText))
			}
		}
	}
	for _, line := range []string{"", " ", "    ", "sync", "dir /a", "now", "0", "pick", "evict", "begin", "foo", "/a", "pick 0 1", "mount 1", "daemon 0", "evict 1 2", "pick pick 0", "begin begin 0 sync"} {
		checkEventOf(t, line, noEvent(impl.ErrText))
	}
}

func TestFirstWordsOfEventsThatAreNone(t *testing.T) {
	for line := range formEvents() {
		first, rest, _ := strings.Cut(line, " ")
		for _, other := range []string{strings.ToUpper(first), strings.ToUpper(first[:1]) + first[1:], first + "s", first[1:], first[:1] + " " + first[1:], "fair", "\xff"} {
			checkEventOf(t, other+" "+rest, noEvent(impl.ErrText))
		}
	}
	for line := range formOps() {
		checkEventOf(t, line, noEvent(impl.ErrText))
		checkEventOf(t, "begin 0 "+strings.ToUpper(line), noEvent(impl.ErrText))
	}
}

func TestNumbersOfEventsThatAreNone(t *testing.T) {
	for _, word := range append(notNumerals(), "1000000", "9999999") {
		if strings.Trim(word, " ") != word || strings.Contains(word, " ") || word == "" {
			continue
		}
		for _, line := range []string{"pick N", "evict N", "crash N", "crash 0 N 1", "crash 1 1 N", "crash N 2", "begin N sync", "begin N dir a", "begin N", "begin N" + strings.Repeat(" x", 21), "begin 0 cut /a N", "begin 0 write /a N 1 2 3 4", "begin 9 write /a 9 1 2 3 N"} {
			checkEventOf(t, strings.ReplaceAll(line, "N", word), noEvent(impl.ErrText))
		}
	}
}

func TestWhatIsBegun(t *testing.T) {
	for line, code := range map[string]int64{
		"begin 0":                 impl.ErrText,
		"begin 4":                 impl.ErrText,
		"begin 0 foo":             impl.ErrText,
		"begin 0 0 sync":          impl.ErrText,
		"begin 0 pick 0":          impl.ErrText,
		"begin 0 daemon":          impl.ErrText,
		"begin 0 now":             impl.ErrText,
		"begin 0 dir":             impl.ErrText,
		"begin sync":              impl.ErrText,
		"begin 4 sync":            impl.ErrRange,
		"begin 999999 sync":       impl.ErrRange,
		"begin 4 cut /a 4":        impl.ErrRange,
		"begin 4 cut /a 5":        impl.ErrRange,
		"begin 4 dir a":           impl.ErrText,
		"begin 4 dir /a/b/c/d/e":  impl.ErrMany,
		"begin 4 foo":             impl.ErrText,
		"begin 4 cut /a":          impl.ErrText,
		"begin 4 write /a 0 1 2":  impl.ErrText,
		"begin 4 move /a /a/b":    impl.ErrRange,
		"begin 1000000 sync":      impl.ErrText,
		"begin 00 sync":           impl.ErrText,
		"begin -1 sync":           impl.ErrText,
		"begin 0 sync 0":          impl.ErrText,
		"begin 0 cut /a/b/c 0005": impl.ErrText,
	} {
		checkEventOf(t, line, noEvent(code))
		checkEventOf(t, line, eventOfByRule(line))
	}
	// More words than an op may have are too many wherever the number is one, whoever begins.
	for _, begin := range []string{"begin 0", "begin 4", "begin 999999"} {
		for _, word := range []string{" x", " sync", " 0", " /a"} {
			checkEventOf(t, begin+strings.Repeat(word, 20), noEvent(impl.ErrText))
			checkEventOf(t, begin+strings.Repeat(word, 21), noEvent(impl.ErrMany))
			checkEventOf(t, begin+strings.Repeat(word, 300), noEvent(impl.ErrMany))
		}
	}
	checkEventOf(t, "begin 0 write /a 0 1 2 3 4"+strings.Repeat(" 5", 13), noEvent(impl.ErrText))
	checkEventOf(t, "begin 0 write /a 0 1 2 3 4"+strings.Repeat(" 5", 14), noEvent(impl.ErrMany))
	checkEventOf(t, "begin x"+strings.Repeat(" x", 21), noEvent(impl.ErrText))
	checkEventOf(t, "begin 01"+strings.Repeat(" x", 21), noEvent(impl.ErrText))
}

func TestTheFaultsOfEventsThatAreTold(t *testing.T) {
	ones := func(many int) string { return "crash" + strings.Repeat(" 1", many) }
	for line, code := range map[string]int64{
		"pick 4": impl.ErrRange, "pick 9": impl.ErrRange, "pick 999999": impl.ErrRange, "evict 328": impl.ErrRange, "evict 999999": impl.ErrRange,
		"crash 2": impl.ErrRange, "crash 0 1 2": impl.ErrRange, "crash 2 x": impl.ErrText, "crash 999999": impl.ErrRange, "crash 10": impl.ErrRange,
		ones(41): impl.ErrMany, ones(41) + " 2": impl.ErrMany, "crash 2" + ones(40)[5:]: impl.ErrMany, ones(39) + " 2": impl.ErrRange, ones(41) + " x": impl.ErrText, ones(41) + " 01": impl.ErrText,
		ones(1400): impl.ErrMany,
	} {
		checkEventOf(t, line, noEvent(code))
		checkEventOf(t, line, eventOfByRule(line))
	}
}

func TestHowLongALineOfAnEventMayBe(t *testing.T) {
	for line, e := range formEvents() {
		room := strings.Repeat(" ", 3000-len(line))
		checkEventOf(t, line+room, impl.EventResult{Event: e})
		checkEventOf(t, room+line, impl.EventResult{Event: e})
		checkEventOf(t, line+room+" ", noEvent(impl.ErrMany))
	}
	for _, line := range []string{strings.Repeat(" ", 3001), strings.Repeat("a", 3001), "foo" + strings.Repeat(" ", 3000), strings.Repeat("\n", 3001)} {
		checkEventOf(t, line, noEvent(impl.ErrMany))
		checkEventOf(t, line[:3000], noEvent(impl.ErrText))
	}
}

// eachOpToTell has no fault: each kind with each of some paths, and each bound of its numbers.
func eachOpToTell() []impl.Op {
	all := []impl.Op{syncOp()}
	paths := []string{"/", "/a", "/zzzzzz", "/a/b", "/abcdef/abcdef/abcdef/abcdef", "/sync", "/write/cut", "/z/y/x/w"}
	for _, path := range paths {
		all = append(all, makeDir(path), makeFile(path), dropOp(path), readOp(path), listOp(path))
		for _, to := range paths {
			all = append(all, moveOp(path, to))
		}
		for index := range int64(5) {
			all = append(all, cutOp(path, index))
		}
		for index := range int64(4) {
			all = append(all, writeOp(path, index, 0, 0, 0, 0), writeOp(path, index, 9999, 9998, 9997, 9996), writeOp(path, index, 1, 10, 100, 1000))
		}
	}
	return all
}

func TestEachOpIsReadBackFromTheWordsThatTellIt(t *testing.T) {
	for _, o := range eachOpToTell() {
		if impl.OpFault(o) != 0 {
			t.Fatalf("%+v has a fault", o)
		}
		checkOpOf(t, wordsOfOp(o), impl.OpResult{Op: o})
		for who := range int64(4) {
			checkEventOf(t, lineOfEvent(beginEvent(who, o)), impl.EventResult{Event: beginEvent(who, o)})
		}
	}
}

func TestEachEventIsReadBackFromTheLineThatTellsIt(t *testing.T) {
	all := []impl.Event{daemonEvent(), mountEvent()}
	for who := range int64(4) {
		all = append(all, pickEvent(who))
	}
	for at := range int64(328) {
		all = append(all, evictEvent(at))
	}
	for many := range 41 {
		all = append(all, crashEvent(make([]int64, many)...), crashEvent(slices.Repeat([]int64{1, 0}, 20)[:many]...))
	}
	for _, e := range all {
		if impl.EventFault(e) != 0 {
			t.Fatalf("%+v has a fault", e)
		}
		checkEventOf(t, lineOfEvent(e), impl.EventResult{Event: e})
	}
}

func TestNumbersThatNoWordTells(t *testing.T) {
	for _, n := range []int64{math.MinInt64, -1, 1000000, math.MaxInt64} {
		word := strconv.FormatInt(n, 10)
		checkNumberOf(t, word, impl.IntResult{Code: impl.ErrText})
		checkOpOf(t, []string{"cut", "/a", word}, noOp(impl.ErrText))
		checkOpOf(t, []string{"write", "/a", "0", "1", "2", word, "4"}, noOp(impl.ErrText))
		for _, line := range []string{"pick ", "evict ", "crash ", "crash 1 0 "} {
			checkEventOf(t, line+word, noEvent(impl.ErrText))
		}
	}
}
