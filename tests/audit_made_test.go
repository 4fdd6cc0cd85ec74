package tests

import (
	"math/rand"
	"slices"

	"loop.example/g00691/impl"
)

// Notes to ask: told by hand, or by chance from a seed.

func beginNote(who int64, o impl.Op) impl.Note {
	return impl.Note{Kind: impl.NoteBegin, Who: who, Epoch: 2, Op: o}
}

func endNote(who int64, o impl.Op, epoch int64) impl.Note {
	return impl.Note{Kind: impl.NoteEnd, Who: who, Epoch: epoch, Op: o}
}

func repliedNote(o impl.Op, r impl.Reply) impl.Note {
	return impl.Note{Kind: impl.NoteEnd, Op: o, Reply: r}
}

func codeNote(o impl.Op, code int64) impl.Note {
	return repliedNote(o, impl.Reply{Code: code})
}

func crashNote() impl.Note {
	return impl.Note{Kind: impl.NoteCrash}
}

func upNote(epoch int64) impl.Note {
	return impl.Note{Kind: impl.NoteUp, Epoch: epoch}
}

// again: a crash, and that it comes up with this clock.
func again(clock int64) []impl.Note {
	return []impl.Note{crashNote(), upNote(clock)}
}

// doneIn: ends with the code 0, all of one epoch.
func doneIn(epoch int64, ops ...impl.Op) []impl.Note {
	var notes []impl.Note
	for _, o := range ops {
		notes = append(notes, endNote(0, o, epoch))
	}
	return notes
}

// syncOf: a sync of the thread that begins, and comes back with nothing between.
func syncOf(who int64) []impl.Note {
	return []impl.Note{beginNote(who, syncOp()), endNote(who, syncOp(), 0)}
}

func notesOf(notes ...impl.Note) []impl.Note {
	return notes
}

// rightNotes: one of each kind, and of each kind of op, none of which has a fault.
func rightNotes() []impl.Note {
	notes := notesOf(crashNote(), upNote(0), upNote(9999), repliedNote(readOp("/a"), impl.Reply{Numbers: []int64{0, 9999}}), repliedNote(listOp("/"), impl.Reply{Names: []string{"a", "zzzzzz"}}))
	for kind := range neededFields() {
		notes = append(notes, beginNote(kind%4, rightOp(kind)), endNote(kind%4, rightOp(kind), kind), codeNote(rightOp(kind), kind))
	}
	return notes
}

type faultyNote struct {
	what string
	note impl.Note
	code int64
}

// spoiler makes one fault of a NoteEnd; rank tells where it is asked.
type spoiler struct {
	what  string
	rank  int
	code  int64
	spoil func(*impl.Note)
}

func spoilers() []spoiler {
	list := []spoiler{
		{"the Kind 0", 0, impl.ErrForm, func(n *impl.Note) { n.Kind = 0 }},
		{"the Kind 5", 0, impl.ErrForm, func(n *impl.Note) { n.Kind = 5 }},
		{"the Kind -1", 0, impl.ErrForm, func(n *impl.Note) { n.Kind = -1 }},
		{"Who -1", 1, impl.ErrRange, func(n *impl.Note) { n.Who = -1 }},
		{"Who 4", 1, impl.ErrRange, func(n *impl.Note) { n.Who = 4 }},
		{"Epoch -1", 2, impl.ErrRange, func(n *impl.Note) { n.Epoch = -1 }},
		{"Epoch 10000", 2, impl.ErrRange, func(n *impl.Note) { n.Epoch = 10000 }},
		{"the Code -1", 4, impl.ErrRange, func(n *impl.Note) { n.Reply.Code = -1 }},
		{"the Code 10", 4, impl.ErrRange, func(n *impl.Note) { n.Reply.Code = 10 }},
		{"17 Numbers", 5, impl.ErrMany, func(n *impl.Note) { n.Reply.Numbers = make([]int64, 17) }},
		{"61 Names", 5, impl.ErrMany, func(n *impl.Note) { n.Reply.Names = slices.Repeat([]string{"a"}, 61) }},
		{"17 Numbers that are none", 5, impl.ErrMany, func(n *impl.Note) { n.Reply.Numbers = slices.Repeat([]int64{-1}, 17) }},
		{"61 Names that are none", 5, impl.ErrMany, func(n *impl.Note) { n.Reply.Names = make([]string, 61) }},
		{"a Number -1", 6, impl.ErrRange, func(n *impl.Note) { n.Reply.Numbers = []int64{0, -1} }},
		{"a Number 10000", 6, impl.ErrRange, func(n *impl.Note) { n.Reply.Numbers = append(make([]int64, 15), 10000) }},
		{"an empty Name", 7, impl.ErrText, func(n *impl.Note) { n.Reply.Names = []string{""} }},
		{"a Name that is none", 7, impl.ErrText, func(n *impl.Note) { n.Reply.Names = append(slices.Repeat([]string{"a"}, 59), "abcdefg") }},
	}
	for code, ops := range faultyOps() {
		for _, o := range ops {
			list = append(list, spoiler{"a fault of the Op", 3, code, func(n *impl.Note) { n.Op = o }})
		}
	}
	return list
}

// notZero: what a kind of note may not have, that is all but an end; the first ones are of those that have no op either.
func notZero() (ofNoOp []func(*impl.Note), ofNoEnd []func(*impl.Note)) {
	ofNoOp = []func(*impl.Note){
		func(n *impl.Note) { n.Who = 1 }, func(n *impl.Note) { n.Who = -1 }, func(n *impl.Note) { n.Who = 4 },
		func(n *impl.Note) { n.Op = syncOp() }, func(n *impl.Note) { n.Op = makeDir("/a") }, func(n *impl.Note) { n.Op.Kind = -1 }, func(n *impl.Note) { n.Op.Path = "/" },
		func(n *impl.Note) { n.Op.To = "x" }, func(n *impl.Note) { n.Op.Dir = true }, func(n *impl.Note) { n.Op.Index = -1 }, func(n *impl.Note) { n.Op.Numbers = []int64{0} },
	}
	ofNoEnd = []func(*impl.Note){
		func(n *impl.Note) { n.Reply.Code = 1 }, func(n *impl.Note) { n.Reply.Code = -1 }, func(n *impl.Note) { n.Reply.Code = 10 },
		func(n *impl.Note) { n.Reply.Numbers = []int64{0} }, func(n *impl.Note) { n.Reply.Numbers = make([]int64, 17) },
		func(n *impl.Note) { n.Reply.Names = []string{"a"} }, func(n *impl.Note) { n.Reply.Names = []string{""} }, func(n *impl.Note) { n.Reply.Names = make([]string, 61) },
	}
	return ofNoOp, ofNoEnd
}

// faultyNotes: some of each code, each of which has one fault alone.
func faultyNotes() []faultyNote {
	var all []faultyNote
	for _, s := range spoilers() {
		end := endNote(1, writeOp("/a", 0, 1, 2, 3, 4), 3)
		s.spoil(&end)
		all = append(all, faultyNote{"an end with " + s.what, end, s.code})
		if begin := beginNote(3, makeFile("/a")); s.rank <= 3 {
			s.spoil(&begin)
			all = append(all, faultyNote{"a begin with " + s.what, begin, s.code})
		}
		if up := upNote(2); s.rank == 2 {
			s.spoil(&up)
			all = append(all, faultyNote{"an up with " + s.what, up, s.code})
			up.Kind = impl.NoteCrash
			all = append(all, faultyNote{"a crash with " + s.what, up, s.code})
		}
	}
	ofNoOp, ofNoEnd := notZero()
	for _, n := range notesOf(crashNote(), upNote(3)) {
		for _, turn := range slices.Concat(ofNoOp, ofNoEnd) {
			other := n
			turn(&other)
			all = append(all, faultyNote{"what neither a crash nor an up has", other, impl.ErrForm})
		}
	}
	for _, turn := range ofNoEnd {
		n := beginNote(0, readOp("/a"))
		turn(&n)
		all = append(all, faultyNote{"a begin with a reply", n, impl.ErrForm})
	}
	return all
}

// restless: much is wanted of few files, syncs more often than in other worlds, and it crashes again and again.
func restless(r *rand.Rand, many int) askedWorld {
	asked := askedWorld{config: impl.Config{Lines: 8 + r.Int63n(12), Threads: 1 + r.Int63n(4), Clock: 2 + r.Int63n(2)}}
	if r.Intn(8) == 0 {
		asked.config.Clock = 9990 + r.Int63n(10)
	}
	m := mood{work: 20 + r.Intn(30), daemon: 60, evict: r.Intn(12), crash: r.Intn(4)}
	w := newWorldByRule(asked.config)
	for range many {
		e := m.anyEvent(r, w)
		if e.Kind == impl.EvBegin && r.Intn(4) == 0 {
			e.Op = syncOp()
		}
		w.take(e)
		asked.events = append(asked.events, e)
	}
	return asked
}

// auditWorld: any world of those that there are.
func auditWorld(r *rand.Rand, many int) askedWorld {
	switch r.Intn(3) {
	case 0:
		return anyWorld(r, many)
	case 1:
		return anyDrain(r, max(many-8, 0))
	}
	return restless(r, many)
}

// someClocks are near what the notes tell, and at the bounds of all clocks.
func someClocks(r *rand.Rand, notes []impl.Note) []int64 {
	clocks := []int64{1, 2, 3, 9998, 9999, 10000}
	for range 3 {
		if len(notes) > 0 {
			clocks = append(clocks, notes[r.Intn(len(notes))].Epoch+r.Int63n(5))
		}
	}
	return clocks
}

// spoiltNote: another value in one field, or another reply; that may be right, too.
func spoiltNote(r *rand.Rand, n impl.Note) impl.Note {
	n = copyOfNote(n)
	switch r.Intn(9) {
	case 0:
		n.Kind = r.Int63n(6)
	case 1:
		n.Who = r.Int63n(6) - 1
	case 2, 3:
		n.Epoch += []int64{-3, -2, -1, 1, 2, 10000}[r.Intn(6)]
	case 4:
		n.Op = spoiltOp(r, n.Op)
	case 5, 6:
		n.Reply.Code = r.Int63n(12) - 1
	case 7:
		n.Reply.Numbers = [][]int64{nil, {0}, {1, 2, 3, 4}, append(n.Reply.Numbers, 1, 2, 3, 4), make([]int64, 16), make([]int64, 17), make([]int64, 18), {-1}}[r.Intn(8)]
	case 8:
		n.Reply.Names = [][]string{nil, {"a"}, {"a", "b"}, append(n.Reply.Names, "zz"), {"A"}, {"a", ""}, slices.Repeat([]string{"a"}, 61)}[r.Intn(7)]
	}
	return n
}

// spoiltNotes: some of them are spoilt, gone, told twice, or stand elsewhere.
func spoiltNotes(r *rand.Rand, notes []impl.Note) []impl.Note {
	notes = copyOfNotes(notes)
	for range 1 + r.Intn(2) {
		if len(notes) == 0 {
			return notesOf(spoiltNote(r, rightNotes()[r.Intn(5)]))
		}
		at, other := r.Intn(len(notes)), r.Intn(len(notes))
		switch r.Intn(8) {
		case 0:
			notes = slices.Delete(notes, at, at+1)
		case 1:
			notes = slices.Insert(notes, at, copyOfNote(notes[other]))
		case 2:
			notes[at], notes[other] = notes[other], notes[at]
		case 3:
			notes = slices.Insert(notes, at, []impl.Note{crashNote(), upNote(r.Int63n(6)), beginNote(r.Int63n(4), syncOp())}[r.Intn(3)])
		default:
			notes[at] = spoiltNote(r, notes[at])
		}
	}
	return notes
}

// anyNotes need not be any world's: they have no fault, but what they tell fits together by chance alone.
func anyNotes(r *rand.Rand, many int) []impl.Note {
	var notes []impl.Note
	epoch := 1 + r.Int63n(3)
	for range many {
		items := thereByRule(notes, 9999)
		o := workOp(r, items)
		for opFaultByRule(o) != 0 || r.Intn(6) == 0 {
			o = []impl.Op{syncOp(), workOp(r, items)}[r.Intn(2)]
		}
		who := r.Int63n(4)
		switch r.Intn(12) {
		case 0:
			notes = append(notes, crashNote())
		case 1:
			notes = append(notes, upNote(r.Int63n(8)))
		case 2, 3:
			notes = append(notes, beginNote(who, o))
		case 4:
			notes = append(notes, beginNote(who, syncOp()))
		case 5:
			notes = append(notes, repliedNote(o, impl.Reply{Code: r.Int63n(10)}))
		case 6:
			notes = append(notes, endNote(who, o, r.Int63n(8)))
		default:
			epoch += max(r.Int63n(5)-3, 0)
			done := doByRule(items, o)
			n := endNote(who, o, epoch)
			n.Reply = impl.Reply{Code: done.Code, Numbers: done.Numbers, Names: done.Names}
			notes = append(notes, n)
		}
	}
	return notes
}
