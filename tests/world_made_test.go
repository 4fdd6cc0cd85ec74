package tests

import (
	"math/rand"
	"slices"
	"testing"

	"loop.example/g00691/impl"
)

// Worlds to ask: events told by hand, or by chance from a seed.

func beginEvent(who int64, o impl.Op) impl.Event {
	return impl.Event{Kind: impl.EvBegin, Who: who, Op: o}
}

func pickEvent(who int64) impl.Event {
	return impl.Event{Kind: impl.EvPick, Who: who}
}

func daemonEvent() impl.Event {
	return impl.Event{Kind: impl.EvDaemon}
}

func evictEvent(at int64) impl.Event {
	return impl.Event{Kind: impl.EvEvict, At: at}
}

func crashEvent(fates ...int64) impl.Event {
	return impl.Event{Kind: impl.EvCrash, Fates: fates}
}

func mountEvent() impl.Event {
	return impl.Event{Kind: impl.EvMount}
}

// oneOfEachEvent has no fault.
func oneOfEachEvent() []impl.Event {
	return []impl.Event{beginEvent(0, syncOp()), pickEvent(0), daemonEvent(), evictEvent(0), crashEvent(0, 1), mountEvent()}
}

// doing: the thread begins each op and is picked once behind it.
func doing(who int64, ops ...impl.Op) []impl.Event {
	var events []impl.Event
	for _, o := range ops {
		events = append(events, beginEvent(who, o), pickEvent(who))
	}
	return events
}

func daemonSteps(many int) []impl.Event {
	return slices.Repeat([]impl.Event{daemonEvent()}, many)
}

func mountSteps(many int) []impl.Event {
	return slices.Repeat([]impl.Event{mountEvent()}, many)
}

// roundSteps: so many daemon steps a round takes where nothing is to be flushed or cleared.
const roundSteps = 6

// throughRound: all steps of the round in which the daemon is, by the rule, up to its rest.
func throughRound(c impl.Config, events []impl.Event) []impl.Event {
	w := newWorldByRule(c)
	for _, e := range events {
		w.take(e)
	}
	events = slices.Clone(events)
	for isFirst := true; isFirst || w.phase != "rests"; isFirst = false {
		if w.take(daemonEvent()) != 0 {
			panic("the daemon of a test cannot go on")
		}
		events = append(events, daemonEvent())
	}
	return events
}

func throughRounds(c impl.Config, events []impl.Event, many int) []impl.Event {
	for range many {
		events = throughRound(c, events)
	}
	return events
}

func smallConfig() impl.Config {
	return impl.Config{Lines: 12, Threads: 2, Clock: 2}
}

// ran: what there is behind events, of which none has a code.
func ran(t *testing.T, c impl.Config, parts ...[]impl.Event) impl.State {
	t.Helper()
	s := ranWithCodes(t, c, parts...)
	for i, code := range s.Codes {
		if code != 0 {
			t.Fatalf("the event number %d, %+v, has the code %d", i, slices.Concat(parts...)[i], code)
		}
	}
	return s
}

func ranWithCodes(t *testing.T, c impl.Config, parts ...[]impl.Event) impl.State {
	t.Helper()
	events := slices.Concat(parts...)
	got := impl.RunWorld(c, events)
	if got.Code != 0 || len(got.State.Codes) != len(events) {
		t.Fatalf("RunWorld of %+v has the code %d and %d codes of %d events", c, got.Code, len(got.State.Codes), len(events))
	}
	return got.State
}

func lastNote(t *testing.T, s impl.State) impl.Note {
	t.Helper()
	if len(s.Notes) == 0 {
		t.Fatal("there is no note")
	}
	return s.Notes[len(s.Notes)-1]
}

func checkLastNote(t *testing.T, what string, s impl.State, want impl.Note) {
	t.Helper()
	if got := lastNote(t, s); !sameNoteByRule(got, want) {
		t.Fatalf("%s: the last note is %+v, want %+v", what, got, want)
	}
}

// checkReply: the last note is the end of an op of the thread 0 with this code, which is no mutation that was done.
func checkReply(t *testing.T, what string, s impl.State, o impl.Op, reply impl.Reply) {
	t.Helper()
	checkLastNote(t, what, s, impl.Note{Kind: impl.NoteEnd, Op: o, Reply: reply})
}

func checkEnded(t *testing.T, what string, s impl.State, who int64, o impl.Op, epoch int64) {
	t.Helper()
	checkLastNote(t, what, s, impl.Note{Kind: impl.NoteEnd, Who: who, Epoch: epoch, Op: o})
}

func checkCodes(t *testing.T, what string, s impl.State, codes ...int64) {
	t.Helper()
	if len(s.Codes) < len(codes) || !slices.Equal(s.Codes[len(s.Codes)-len(codes):], codes) {
		t.Fatalf("%s: the codes are %v, want %v at the end", what, s.Codes, codes)
	}
}

// cellsOfLine: the cells by which these words are stored in a line, from its first one on.
func cellsOfLine(line int64, words ...int64) []impl.Cell {
	var cells []impl.Cell
	for i, word := range words {
		cells = append(cells, impl.Cell{At: 8*line + int64(i), Value: word})
	}
	return cells
}

func checkCells(t *testing.T, what string, s impl.State, flights []impl.Cell, over []impl.Cell) {
	t.Helper()
	if !slices.Equal(s.Device.Flights, flights) || !slices.Equal(s.Device.Over, over) {
		t.Fatalf("%s:\nFlights %v\nwant    %v\nOver %v\nwant %v", what, s.Device.Flights, flights, s.Device.Over, over)
	}
}

// checkLoaded: what is loaded of a line, word by word.
func checkLoaded(t *testing.T, what string, s impl.State, line int64, words []int64) {
	t.Helper()
	for i, want := range words {
		if got := impl.LoadWord(s.Device, 8*line+int64(i)); got.Code != 0 || got.Value != want {
			t.Fatalf("%s: the word %d of the line %d is %+v, want %d", what, i, line, got, want)
		}
	}
}

func checkKeptLine(t *testing.T, what string, s impl.State, line int64, words ...int64) {
	t.Helper()
	if got := s.Device.Words[8*line : 8*line+8][:len(words)]; !slices.Equal(got, words) {
		t.Fatalf("%s: of the line %d is kept %v, want %v", what, line, got, words)
	}
}

func checkFreeLines(t *testing.T, what string, s impl.State, free int64) {
	t.Helper()
	if s.Free != free {
		t.Fatalf("%s: %d lines are free, want %d", what, s.Free, free)
	}
}

func checkClocks(t *testing.T, what string, s impl.State, now int64, sure int64, kept int64) {
	t.Helper()
	if s.Now != now || s.Sure != sure || s.Device.Words[1] != kept {
		t.Fatalf("%s: Now is %d, Sure %d and the clock that is kept %d; want %d, %d and %d", what, s.Now, s.Sure, s.Device.Words[1], now, sure, kept)
	}
}

func checkStateItems(t *testing.T, what string, s impl.State, want ...impl.Item) {
	t.Helper()
	if !sameItemsByRule(s.Items, want) {
		t.Fatalf("%s: there is %v, want %v", what, s.Items, want)
	}
}

// mood: how much of what happens, each as a weight.
type mood struct {
	work   int
	daemon int
	evict  int
	crash  int
	wrong  int
}

func anyMood(r *rand.Rand) mood {
	moods := []mood{
		{work: 60, daemon: 36, evict: 2, crash: 1, wrong: 1},
		{work: 90, daemon: 8, evict: 1, crash: 1},
		{work: 30, daemon: 65, evict: 4, crash: 1},
		{work: 25, daemon: 70, evict: 3, crash: 2},
		{work: 40, daemon: 40, evict: 10, crash: 6, wrong: 4},
		{work: 50, daemon: 50},
		{work: 100},
		{work: 30, daemon: 30, evict: 10, crash: 10, wrong: 20},
	}
	return moods[r.Intn(len(moods))]
}

func anyConfig(r *rand.Rand) impl.Config {
	c := impl.Config{Lines: 4 + r.Int63n(9), Threads: 1 + r.Int63n(4), Clock: 2 + r.Int63n(3)}
	if r.Intn(3) == 0 {
		c.Lines = 4 + r.Int63n(38)
	}
	if r.Intn(6) == 0 {
		c.Clock = 9988 + r.Int63n(12)
	}
	return c
}

// newPath is one in the root or in a directory that there is; something may be there already.
func newPath(r *rand.Rand, items []impl.Item) string {
	into := ""
	for _, item := range items {
		if item.Dir && r.Intn(4) == 0 {
			into = item.Path
		}
	}
	return into + "/" + []string{"a", "b", "ab", "aa", "c"}[r.Intn(5)]
}

// fileOp wants something of a file that there is.
func fileOp(r *rand.Rand, file impl.Item) impl.Op {
	pieces := int64(len(file.Data) / 4)
	switch r.Intn(10) {
	case 0, 1:
		return dropOp(file.Path)
	case 2, 3:
		return cutOp(file.Path, r.Int63n(pieces+1))
	case 4:
		return readOp(file.Path)
	}
	return writeOp(file.Path, min(r.Int63n(pieces+1), 3), anyPiece(r)...)
}

// workOp wants something of what there is, and more often than not something that can be done.
func workOp(r *rand.Rand, items []impl.Item) impl.Op {
	if len(items) > 0 && r.Intn(2) == 0 {
		it := items[r.Intn(len(items))]
		if !it.Dir {
			return fileOp(r, it)
		}
		return []impl.Op{dropOp(it.Path), listOp(it.Path), moveOp(it.Path, newPath(r, items))}[r.Intn(3)]
	}
	switch r.Intn(6) {
	case 0, 1, 2:
		return impl.Op{Kind: impl.OpMake, Path: newPath(r, items), Dir: r.Intn(3) == 0}
	case 3:
		if len(items) > 0 {
			return moveOp(items[r.Intn(len(items))].Path, newPath(r, items))
		}
	}
	return anyOp(r, items)
}

// spoiltEvent: another value in one field; that may be right, too.
func spoiltEvent(r *rand.Rand, e impl.Event) impl.Event {
	switch r.Intn(6) {
	case 0:
		e.Kind = r.Int63n(10) - 1
	case 1:
		e.Who = r.Int63n(7) - 1
	case 2:
		e.At = []int64{-1, 0, 1, 31, 32, 95, 96, 327, 328}[r.Intn(9)]
	case 3:
		e.Fates = make([]int64, []int{0, 1, 40, 41}[r.Intn(4)])
	case 4:
		e.Fates = []int64{0, r.Int63n(4) - 1, 1}
	case 5:
		e.Op = spoiltOp(r, e.Op)
	}
	return e
}

func anyEvict(r *rand.Rand, w *worldByRule) impl.Event {
	cells := slices.Concat(w.device.Flights, w.device.Over)
	if len(cells) == 0 || r.Intn(10) == 0 {
		return evictEvent(r.Int63n(8 * w.config.Lines))
	}
	return evictEvent(cells[r.Intn(len(cells))].At)
}

func anyWork(r *rand.Rand, w *worldByRule) impl.Event {
	who := r.Int63n(w.config.Threads)
	if w.threads[who].busy != (r.Intn(20) == 0) {
		return pickEvent(who)
	}
	return beginEvent(who, workOp(r, w.items()))
}

func (m mood) anyEvent(r *rand.Rand, w *worldByRule) impl.Event {
	at := r.Intn(m.work + m.daemon + m.evict + m.crash + m.wrong)
	if !w.up && r.Intn(10) > 0 {
		return mountEvent()
	}
	switch {
	case at < m.work:
		return anyWork(r, w)
	case at < m.work+m.daemon:
		return daemonEvent()
	case at < m.work+m.daemon+m.evict:
		return anyEvict(r, w)
	case at < m.work+m.daemon+m.evict+m.crash:
		return crashEvent(anyFates(r, r.Intn(41))...)
	}
	all := append(oneOfEachEvent(), anyWork(r, w), anyEvict(r, w))
	return spoiltEvent(r, all[r.Intn(len(all))])
}

type askedWorld struct {
	config impl.Config
	events []impl.Event
}

// anyWorld has no fault of its config, and so many events; each of these is made for the world that there is by then.
func anyWorld(r *rand.Rand, many int) askedWorld {
	asked := askedWorld{config: anyConfig(r)}
	m := anyMood(r)
	w := newWorldByRule(asked.config)
	for range many {
		e := m.anyEvent(r, w)
		w.take(e)
		asked.events = append(asked.events, e)
	}
	return asked
}
