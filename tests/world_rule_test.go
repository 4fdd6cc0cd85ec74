package tests

import (
	"reflect"
	"slices"
	"strings"
	"testing"

	"loop.example/g00691/impl"
)

// The world once more, in plain lists that are gone through as the document tells it, to hold the program's answers against.

func configFaultByRule(c impl.Config) int64 {
	if c.Lines < 4 || c.Lines > 41 {
		return impl.ErrMany
	}
	if c.Threads < 1 || c.Threads > 4 || c.Clock < 2 || c.Clock > 9999 {
		return impl.ErrRange
	}
	return 0
}

func eventFaultByRule(e impl.Event) int64 {
	op := e.Op
	op.Numbers = nil
	has := ""
	for _, field := range []struct {
		letter string
		is     bool
	}{{"w", e.Who != 0}, {"a", e.At != 0}, {"f", len(e.Fates) > 0}, {"o", !reflect.DeepEqual(op, impl.Op{}) || len(e.Op.Numbers) > 0}} {
		if field.is {
			has += field.letter
		}
	}
	needs := map[int64]string{1: "wo", 2: "w", 3: "", 4: "a", 5: "f", 6: ""}
	needed, is := needs[e.Kind]
	if !is || strings.Trim(has, needed) != "" {
		return impl.ErrForm
	}
	if e.Who < 0 || e.Who > 3 || e.At < 0 || e.At > 327 {
		return impl.ErrRange
	}
	if len(e.Fates) > 40 {
		return impl.ErrMany
	}
	if slices.ContainsFunc(e.Fates, func(fate int64) bool { return fate != 0 && fate != 1 }) {
		return impl.ErrRange
	}
	if e.Kind == 1 {
		return opFaultByRule(e.Op)
	}
	return 0
}

type lineByRule struct {
	line  int64
	epoch int64
}

type threadByRule struct {
	busy bool
	op   impl.Op
	aim  int64
	ring []lineByRule
}

// worldByRule: Nodes and Datas of live are what there is; first and later are the lines that a mount has yet to clear.
type worldByRule struct {
	config  impl.Config
	up      bool
	now     int64
	sure    int64
	next    int64
	device  impl.Device
	live    impl.LiveResult
	free    []int64
	threads []threadByRule
	limbo   []lineByRule
	gone    []lineByRule
	cleared []int64
	phase   string
	isRead  bool
	first   []int64
	later   []int64
	codes   []int64
	notes   []impl.Note
}

func newWorldByRule(c impl.Config) *worldByRule {
	device := actsByRule(impl.Device{Words: make([]int64, 8*c.Lines)}, formatByRule(c.Lines).Acts).Device
	device.Words[1] = c.Clock
	w := &worldByRule{config: c, up: true, now: c.Clock, sure: c.Clock, next: 1, device: device, phase: "rests"}
	for line := int64(1); line < c.Lines; line++ {
		w.free = append(w.free, line)
	}
	w.threads = make([]threadByRule, c.Threads)
	return w
}

func (w *worldByRule) items() []impl.Item {
	return itemsByRule(w.live)
}

func (w *worldByRule) state() impl.State {
	s := impl.State{Up: w.up, Device: w.device, Codes: w.codes, Notes: w.notes}
	for _, thread := range w.threads {
		s.Busy = append(s.Busy, thread.busy)
	}
	if w.up {
		s.Now, s.Sure, s.Items, s.Free = w.now, w.sure, w.items(), int64(len(w.free))
	}
	return s
}

// take answers the event's code, which it puts behind the others, too.
func (w *worldByRule) take(e impl.Event) int64 {
	code := w.codeOf(e)
	w.codes = append(w.codes, code)
	return code
}

func (w *worldByRule) codeOf(e impl.Event) int64 {
	if code := eventFaultByRule(e); code != 0 {
		return code
	}
	if e.Who >= w.config.Threads || e.At >= 8*w.config.Lines {
		return impl.ErrRange
	}
	if w.up && e.Kind == 6 || !w.up && e.Kind <= 3 {
		return impl.ErrState
	}
	switch e.Kind {
	case 1:
		return w.begin(e.Who, e.Op)
	case 2:
		return w.pick(e.Who)
	case 3:
		return w.daemon()
	case 4:
		evicted := evictByRule(w.device, e.At)
		if evicted.Code == 0 {
			w.device = evicted.Device
		}
		return evicted.Code
	case 5:
		w.crash(e.Fates)
	case 6:
		w.mount()
	}
	return 0
}

func (w *worldByRule) begin(who int64, o impl.Op) int64 {
	thread := &w.threads[who]
	if thread.busy {
		return impl.ErrState
	}
	thread.busy, thread.op, thread.aim = true, o, w.now+2
	if thread.aim > 9999 {
		thread.aim = 9999
	}
	w.notes = append(w.notes, impl.Note{Kind: 1, Who: who, Epoch: w.now, Op: o})
	return 0
}

func (w *worldByRule) end(who int64, reply impl.Reply) {
	note := impl.Note{Kind: 2, Who: who, Op: w.threads[who].op, Reply: reply}
	if note.Op.Kind <= 5 && reply.Code == 0 {
		note.Epoch = w.now
	}
	w.notes = append(w.notes, note)
	w.threads[who].busy = false
}

func (w *worldByRule) pick(who int64) int64 {
	thread := &w.threads[who]
	if !thread.busy {
		return impl.ErrState
	}
	told := doByRule(w.items(), thread.op)
	switch thread.op.Kind {
	case 8:
		if w.sure >= thread.aim {
			w.end(who, impl.Reply{})
		}
		return 0
	case 6, 7:
		w.end(who, impl.Reply{Code: told.Code, Numbers: told.Numbers, Names: told.Names})
		return 0
	}
	code := told.Code
	if w.now > 9997 {
		code = impl.ErrState
	}
	if code == 0 && thread.op.Kind == 1 && w.next > 999 {
		code = impl.ErrFull
	}
	var changes []impl.Change
	if code == 0 {
		changes = changesByRule(w.live, thread.op, w.next)
		if len(w.free) < w.needOf(changes) {
			code = impl.ErrFull
		}
	}
	if code != 0 {
		w.end(who, impl.Reply{Code: code})
		return 0
	}
	if 6-len(thread.ring) < len(changes) {
		w.device = flushByRule(w.device, thread.ring[0].line).Device
		thread.ring = thread.ring[1:]
		return 0
	}
	for _, c := range changes {
		w.change(who, c)
	}
	if thread.op.Kind == 1 {
		w.next++
	}
	w.end(who, impl.Reply{})
	return 0
}

// versionOf: what there is of the thing of a change, if anything is.
func (w *worldByRule) versionOf(c impl.Change) (impl.Version, bool) {
	wanted := impl.Head{Kind: 1, Uid: c.Uid}
	if c.Kind == 2 || c.Kind == 4 {
		wanted = impl.Head{Kind: 2, Uid: c.Uid, Index: c.Index}
	}
	return newestByRule(slices.Concat(w.live.Nodes, w.live.Datas), wanted)
}

func (w *worldByRule) needOf(changes []impl.Change) int {
	need := 0
	for _, c := range changes {
		v, is := w.versionOf(c)
		if c.Kind != 4 && !(is && v.Block.Head.Epoch == w.now) {
			need++
		}
	}
	return need
}

func (w *worldByRule) store(at int64, value int64) {
	w.device.Over = putByRule(w.device.Over, impl.Cell{At: at, Value: value})
}

func (w *worldByRule) change(who int64, c impl.Change) {
	thread := &w.threads[who]
	v, is := w.versionOf(c)
	isNow := is && v.Block.Head.Epoch == w.now
	isIt := func(other impl.Version) bool { return is && other.Line == v.Line }
	w.live.Nodes = slices.DeleteFunc(w.live.Nodes, isIt)
	w.live.Datas = slices.DeleteFunc(w.live.Datas, isIt)
	if c.Kind == 4 {
		if isNow {
			w.store(8*v.Line, 0)
			thread.ring = append(thread.ring, lineByRule{v.Line, w.now})
		}
		w.limbo = append(w.limbo, lineByRule{v.Line, w.now})
		return
	}
	line := v.Line
	if !isNow {
		line = slices.Min(w.free)
		w.free = slices.DeleteFunc(w.free, func(other int64) bool { return other == line })
		if is {
			w.limbo = append(w.limbo, lineByRule{v.Line, w.now})
		}
	}
	words := blockByRule(c, w.now)
	for i, word := range words {
		w.store(8*line+int64(i), word)
	}
	thread.ring = append(thread.ring, lineByRule{line, w.now})
	switch c.Kind {
	case 1:
		w.live.Nodes = sortedVersions(append(w.live.Nodes, impl.Version{Line: line, Block: readByRule(words).Block}))
	case 2:
		w.live.Datas = sortedVersions(append(w.live.Datas, impl.Version{Line: line, Block: readByRule(words).Block}))
	case 3:
		w.gone = append(w.gone, lineByRule{line, w.now})
	}
}

// sortedVersions: by Uid, and then Index.
func sortedVersions(versions []impl.Version) []impl.Version {
	slices.SortFunc(versions, func(a impl.Version, b impl.Version) int {
		return int(4*(a.Block.Head.Uid-b.Block.Head.Uid) + a.Block.Head.Index - b.Block.Head.Index)
	})
	return versions
}

func (w *worldByRule) daemon() int64 {
	switch w.phase {
	case "rests":
		if w.now == 9999 {
			return impl.ErrState
		}
		w.phase = "closes"
	case "closes":
		for who, thread := range w.threads {
			for i, entry := range thread.ring {
				if entry.epoch < w.now {
					w.device = flushByRule(w.device, entry.line).Device
					w.threads[who].ring = slices.Delete(slices.Clone(thread.ring), i, i+1)
					return 0
				}
			}
		}
		w.device = fenceByRule(w.device).Device
		w.phase = "ticks"
	case "ticks":
		w.now++
		w.store(1, w.now)
		w.phase = "tells"
	case "tells":
		w.device = flushByRule(w.device, 0).Device
		w.phase = "sees to it"
	case "sees to it":
		w.device = fenceByRule(w.device).Device
		w.sure = w.now
		w.phase = "clears"
	case "clears":
		w.clear()
	}
	return 0
}

func (w *worldByRule) clear() {
	for i, entry := range w.limbo {
		if entry.epoch <= w.sure-2 {
			w.store(8*entry.line, 0)
			w.device = flushByRule(w.device, entry.line).Device
			w.limbo = slices.Delete(slices.Clone(w.limbo), i, i+1)
			w.cleared = append(w.cleared, entry.line)
			return
		}
	}
	w.device = fenceByRule(w.device).Device
	w.free = append(w.free, w.cleared...)
	w.cleared = nil
	var gone []lineByRule
	for _, entry := range w.gone {
		if entry.epoch <= w.sure-2 {
			w.limbo = append(w.limbo, entry)
		} else {
			gone = append(gone, entry)
		}
	}
	w.gone = gone
	w.phase = "rests"
}

func (w *worldByRule) crash(fates []int64) {
	var all []int64
	for i := range len(w.device.Flights) + len(w.device.Over) {
		fate := int64(0)
		if len(fates) > 0 {
			fate = fates[i%len(fates)]
		}
		all = append(all, fate)
	}
	*w = worldByRule{
		config: w.config, device: crashByRule(w.device, all).Device, threads: make([]threadByRule, w.config.Threads), phase: "rests",
		codes: w.codes, notes: append(w.notes, impl.Note{Kind: 3}),
	}
}

func (w *worldByRule) mount() {
	if !w.isRead {
		w.isRead = true
		w.live = liveByRule(w.device.Words)
		if w.live.Code != 0 {
			panic("what a crash left cannot be read")
		}
		next := nextByRule(w.device.Words)
		if w.next = next.Value; next.Code != 0 {
			w.next = 1000
		}
		for _, line := range w.live.Dead {
			h, _ := headByRule(w.device.Words[8*line])
			if h.Kind == 3 && h.Epoch+2 <= w.live.Clock {
				w.later = append(w.later, line)
			} else {
				w.first = append(w.first, line)
			}
		}
		return
	}
	if len(w.first) > 0 {
		w.store(8*w.first[0], 0)
		w.device = flushByRule(w.device, w.first[0]).Device
		w.first = w.first[1:]
		return
	}
	w.device = fenceByRule(w.device).Device
	if len(w.later) > 0 {
		w.first, w.later = w.later, nil
		return
	}
	w.up, w.now, w.sure = true, w.live.Clock, w.live.Clock
	w.free = freeByRule(w.device.Words).List
	w.notes = append(w.notes, impl.Note{Kind: 4, Epoch: w.now})
}

func runWorldByRule(c impl.Config, events []impl.Event) impl.StateResult {
	w, code := behindByRule(c, events)
	if code != 0 {
		return impl.StateResult{Code: code}
	}
	return impl.StateResult{State: w.state()}
}

// behindByRule: the world behind events, or a code.
func behindByRule(c impl.Config, events []impl.Event) (*worldByRule, int64) {
	if code := configFaultByRule(c); code != 0 {
		return nil, code
	}
	if len(events) > 200 {
		return nil, impl.ErrMany
	}
	w := newWorldByRule(c)
	for _, e := range events {
		w.take(e)
	}
	return w, 0
}

func busyByRule(s impl.State) impl.IntsResult {
	var busy []int64
	for i := range s.Busy {
		if i == 4 {
			return impl.IntsResult{Code: impl.ErrMany}
		}
		if s.Busy[i] {
			busy = append(busy, int64(i))
		}
	}
	return impl.IntsResult{List: busy}
}

func sameOpByRule(a impl.Op, b impl.Op) bool {
	isSame := slices.Equal(a.Numbers, b.Numbers)
	a.Numbers, b.Numbers = nil, nil
	return isSame && reflect.DeepEqual(a, b)
}

func sameNoteByRule(a impl.Note, b impl.Note) bool {
	isSame := sameOpByRule(a.Op, b.Op) && a.Reply.Code == b.Reply.Code &&
		slices.Equal(a.Reply.Numbers, b.Reply.Numbers) && slices.Equal(a.Reply.Names, b.Reply.Names)
	a.Op, b.Op, a.Reply, b.Reply = impl.Op{}, impl.Op{}, impl.Reply{}, impl.Reply{}
	return isSame && reflect.DeepEqual(a, b)
}

func sameNotesByRule(a []impl.Note, b []impl.Note) bool {
	return slices.EqualFunc(a, b, sameNoteByRule)
}

func sameStatesByRule(a impl.State, b impl.State) bool {
	isSame := sameLists(a.Device, b.Device) && sameItemsByRule(a.Items, b.Items) && slices.Equal(a.Busy, b.Busy) &&
		slices.Equal(a.Codes, b.Codes) && sameNotesByRule(a.Notes, b.Notes)
	for _, s := range []*impl.State{&a, &b} {
		s.Device, s.Items, s.Busy, s.Codes, s.Notes = impl.Device{}, nil, nil, nil, nil
	}
	return isSame && reflect.DeepEqual(a, b)
}

func checkStateResult(t *testing.T, what string, got impl.StateResult, want impl.StateResult) {
	t.Helper()
	if got.Code != want.Code || !sameStatesByRule(got.State, want.State) {
		t.Fatalf("%s:\ngot  %+v\nwant %+v", what, got, want)
	}
}

// checkWorld holds a run against the rule, and answers what it leaves.
func checkWorld(t *testing.T, c impl.Config, events []impl.Event) impl.State {
	t.Helper()
	want := runWorldByRule(c, events)
	got := impl.RunWorld(c, events)
	if got.Code != want.Code || !sameStatesByRule(got.State, want.State) {
		t.Fatalf("RunWorld of %+v and %+v:\ngot  %+v\nwant %+v", c, events, got, want)
	}
	return got.State
}
