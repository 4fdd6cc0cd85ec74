package tests

import (
	"math"
	"slices"
	"testing"

	"loop.example/g00691/impl"
)

// checkExplained: whether the parts, one behind the other, are explained; and what is not stays so, whatever comes behind it.
func checkExplained(t *testing.T, what string, want bool, parts ...[]impl.Note) {
	t.Helper()
	notes := slices.Concat(parts...)
	checkIsExplained(t, what, notes, want)
	checkAudit(t, what, notes)
	if !want {
		checkIsExplained(t, what+", and more", slices.Concat(notes, notesOf(crashNote())), false)
		checkIsExplained(t, what+", and more", slices.Concat(notes, again(9999)), false)
	}
}

// someDone: a directory, a file with a piece in it, and another file, of the epochs 2 and 3.
func someDone() []impl.Note {
	return slices.Concat(doneIn(2, makeDir("/d"), makeFile("/d/f")), doneIn(3, writeOp("/d/f", 0, 1, 2, 3, 4), makeFile("/a")))
}

func TestNotesOfAnAuditThatHaveAFault(t *testing.T) {
	checkExplained(t, "some that have none", true, someDone())
	for _, faulty := range faultyNotes() {
		checkExplained(t, faulty.what, false, someDone(), notesOf(faulty.note))
		checkExplained(t, faulty.what, false, notesOf(faulty.note), someDone())
	}
}

func TestWhatBeginsAndEndsWhileItIsUp(t *testing.T) {
	for _, o := range []impl.Op{makeFile("/b"), writeOp("/a", 0, 1, 2, 3, 4), cutOp("/a", 0), dropOp("/a"), moveOp("/a", "/b"), syncOp()} {
		begin, end := notesOf(beginNote(1, o)), doneIn(3, o)
		checkExplained(t, "up", true, someDone(), begin, end)
		checkExplained(t, "a begin alone", true, someDone(), begin)
		checkExplained(t, "an end alone", true, someDone(), end)
		checkExplained(t, "a begin while it is down", false, someDone(), notesOf(crashNote()), begin)
		checkExplained(t, "an end while it is down", false, someDone(), notesOf(crashNote()), end)
		checkExplained(t, "an end behind two crashes", false, someDone(), notesOf(crashNote(), crashNote()), end)
		checkExplained(t, "a begin behind two crashes", false, someDone(), notesOf(crashNote(), crashNote()), begin)
		checkExplained(t, "cut off", true, someDone(), begin, again(5))
		checkExplained(t, "up again", true, someDone(), again(5), begin, end)
		checkExplained(t, "an end with a code while it is down", false, someDone(), notesOf(crashNote(), codeNote(o, impl.ErrState)))
	}
	checkExplained(t, "a read while it is down", false, someDone(), notesOf(crashNote(), codeNote(readOp("/none"), impl.ErrNone)))
	checkExplained(t, "a list while it is down", false, notesOf(crashNote(), repliedNote(listOp("/"), impl.Reply{})))
	// Whatever the Epoch of a beginning or of a crash is, it is not asked.
	for _, epoch := range []int64{0, 1, 9999} {
		checkExplained(t, "an Epoch that is not asked", true, someDone(), notesOf(impl.Note{Kind: impl.NoteBegin, Epoch: epoch, Op: syncOp()}, impl.Note{Kind: impl.NoteCrash, Epoch: epoch}))
	}
}

func TestTheRepliesOfSyncs(t *testing.T) {
	for _, r := range []impl.Reply{{Code: 1}, {Code: impl.ErrFull}, {Code: impl.ErrState}, {Code: 9}, {Numbers: []int64{0}}, {Names: []string{"a"}}} {
		checkExplained(t, "a sync that tells something", false, someDone(), notesOf(repliedNote(syncOp(), r)))
	}
	checkExplained(t, "a sync", true, someDone(), notesOf(repliedNote(syncOp(), impl.Reply{Numbers: []int64{}, Names: []string{}})))
	for _, epoch := range []int64{0, 1, 2, 9999} {
		checkExplained(t, "the Epoch of a sync is not asked", true, someDone(), notesOf(endNote(2, syncOp(), epoch)), doneIn(3, makeFile("/b")))
	}
}

func TestTheRepliesOfReadsAndLists(t *testing.T) {
	right := []impl.Note{
		repliedNote(readOp("/d/f"), impl.Reply{Numbers: []int64{1, 2, 3, 4}}), repliedNote(readOp("/a"), impl.Reply{}),
		codeNote(readOp("/none"), impl.ErrNone), codeNote(readOp("/d"), impl.ErrForm), codeNote(readOp("/"), impl.ErrForm),
		repliedNote(listOp("/"), impl.Reply{Names: []string{"a", "d"}}), repliedNote(listOp("/d"), impl.Reply{Names: []string{"f"}}),
		codeNote(listOp("/none"), impl.ErrNone), codeNote(listOp("/a"), impl.ErrForm),
	}
	for _, n := range right {
		checkExplained(t, "what there is", true, someDone(), notesOf(n))
		n.Epoch = 7
		checkExplained(t, "the Epoch of what asks is not asked", true, someDone(), notesOf(n), doneIn(3, makeFile("/b")))
		for code := range int64(10) {
			other := n
			other.Reply.Code = code
			checkExplained(t, "a Code", code == n.Reply.Code, someDone(), notesOf(other))
		}
		for _, numbers := range [][]int64{{0}, {1, 2, 3}, {1, 2, 3, 5}, {4, 3, 2, 1}, {1, 2, 3, 4, 0}, {1, 2, 3, 4, 1, 2, 3, 4}} {
			other := n
			other.Reply.Numbers = numbers
			checkExplained(t, "other Numbers", false, someDone(), notesOf(other))
		}
		for _, names := range [][]string{{"b"}, {"d", "a"}, {"a"}, {"a", "d", "f"}, {"f", "f"}, {"a", "b"}} {
			other := n
			other.Reply.Names = names
			checkExplained(t, "other Names", false, someDone(), notesOf(other))
		}
	}
	empty := impl.Reply{Numbers: []int64{}, Names: []string{}}
	checkExplained(t, "empty lists", true, someDone(), notesOf(repliedNote(readOp("/a"), empty), repliedNote(listOp("/none"), impl.Reply{Code: impl.ErrNone, Numbers: []int64{}})))
	checkExplained(t, "no Numbers where there are some", false, someDone(), notesOf(repliedNote(readOp("/d/f"), empty)))
	checkExplained(t, "no Names where there are some", false, someDone(), notesOf(repliedNote(listOp("/"), empty)))
	checkExplained(t, "a list of nothing", true, notesOf(repliedNote(listOp("/"), empty)))
	// What there is by then, not what there is later, and not what is sure alone.
	read := notesOf(repliedNote(readOp("/d/f"), impl.Reply{Numbers: []int64{1, 2, 3, 4}}))
	checkExplained(t, "a read of what was", true, someDone(), read, doneIn(3, cutOp("/d/f", 0)))
	checkExplained(t, "a read of what is cut", false, someDone(), doneIn(3, cutOp("/d/f", 0)), read)
	checkExplained(t, "a read of what is sure", true, someDone(), again(5), read)
	checkExplained(t, "a read of what was lost", false, someDone(), again(4), read)
	checkExplained(t, "a read of what is left", true, someDone(), again(4), notesOf(repliedNote(readOp("/d/f"), empty)))
}

func TestTheRepliesOfMutationsHaveNoLists(t *testing.T) {
	for _, o := range []impl.Op{makeFile("/b"), writeOp("/a", 0, 1, 2, 3, 4), cutOp("/d/f", 0), dropOp("/a"), moveOp("/a", "/b")} {
		checkExplained(t, "a mutation", true, someDone(), doneIn(3, o))
		for _, code := range []int64{impl.OK, impl.ErrState, impl.ErrFull} {
			n := codeNote(o, code)
			n.Epoch = 3
			checkExplained(t, "no lists", true, someDone(), notesOf(n))
			n.Reply.Numbers, n.Reply.Names = []int64{}, []string{}
			checkExplained(t, "empty lists", true, someDone(), notesOf(n))
			n.Reply.Numbers = []int64{0}
			checkExplained(t, "Numbers", false, someDone(), notesOf(n))
			n.Reply.Numbers, n.Reply.Names = nil, []string{"a"}
			checkExplained(t, "Names", false, someDone(), notesOf(n))
		}
	}
	n := repliedNote(makeFile("/a"), impl.Reply{Code: impl.ErrTaken, Names: []string{"a"}})
	checkExplained(t, "Names beside the code of DoModel", false, someDone(), notesOf(n))
}

// refusedOps: of each code of DoModel some mutations of someDone.
func refusedOps() map[int64][]impl.Op {
	return map[int64][]impl.Op{
		impl.ErrForm:  {makeFile("/a/x"), dropOp("/"), writeOp("/d", 0, 1, 2, 3, 4), cutOp("/d", 0), moveOp("/d", "/d/x"), moveOp("/a", "/")},
		impl.ErrNone:  {makeFile("/none/x"), dropOp("/none"), writeOp("/none", 0, 1, 2, 3, 4), cutOp("/none", 0), moveOp("/none", "/x")},
		impl.ErrRange: {writeOp("/a", 1, 1, 2, 3, 4), cutOp("/a", 1), cutOp("/d/f", 2)},
		impl.ErrTaken: {makeFile("/a"), makeDir("/a"), makeFile("/"), moveOp("/a", "/d")},
		impl.ErrState: {dropOp("/d")},
	}
}

func TestTheCodesOfMutationsThatCannotBeDone(t *testing.T) {
	for told, ops := range refusedOps() {
		for _, o := range ops {
			for code := range int64(10) {
				want := code == told || code == impl.ErrState
				for _, epoch := range []int64{0, 3, 9999} {
					n := codeNote(o, code)
					n.Epoch = epoch
					checkExplained(t, "a code", want, someDone(), notesOf(n))
				}
			}
		}
	}
	deep := slices.Concat(doneIn(2, makeDir("/a"), makeDir("/a/b"), makeFile("/a/b/c"), makeDir("/d"), makeDir("/d/e")))
	for code := range int64(10) {
		want := code == impl.ErrMany || code == impl.ErrState
		checkExplained(t, "too deep", want, deep, notesOf(codeNote(moveOp("/a", "/d/e/a"), code)))
	}
}

func TestTheCodesOfMutationsThatCanBeDone(t *testing.T) {
	for _, o := range []impl.Op{makeFile("/b"), makeDir("/d/x"), writeOp("/a", 0, 1, 2, 3, 4), writeOp("/d/f", 1, 1, 2, 3, 4), cutOp("/d/f", 1), dropOp("/a"), moveOp("/a", "/d/a")} {
		for code := int64(1); code <= 9; code++ {
			want := code == impl.ErrFull || code == impl.ErrState
			for _, epoch := range []int64{0, 1, 3, 9999} {
				n := codeNote(o, code)
				n.Epoch = epoch
				checkExplained(t, "a code", want, someDone(), notesOf(n))
			}
		}
	}
}

func TestACrowdIsFullByItself(t *testing.T) {
	var crowded []impl.Note
	for _, item := range crowd(60) {
		crowded = append(crowded, endNote(0, makeFile(item.Path), 2))
	}
	for code := range int64(10) {
		for _, crowd := range [][]impl.Note{crowded, crowded[1:]} {
			n := codeNote(makeFile("/zzz"), code)
			n.Epoch = 2
			want := code == impl.ErrFull || code == impl.ErrState || code == 0 && len(crowd) < 60
			checkIsExplained(t, "a crowd", slices.Concat(crowd, notesOf(n)), want)
		}
	}
}

func TestTheEpochsOfMutations(t *testing.T) {
	file, other := makeFile("/a"), makeFile("/b")
	for epoch, want := range map[int64]bool{0: false, 1: true, 2: true, 9999: true} {
		checkExplained(t, "the first one", want, doneIn(epoch, file))
		checkExplained(t, "the first one of an era", want, doneIn(7, file), again(9), doneIn(epoch, other))
	}
	for _, epoch := range []int64{1, 2, 500, 9998} {
		checkExplained(t, "one more", true, doneIn(epoch, file), doneIn(epoch+1, other))
		checkExplained(t, "the same", true, doneIn(epoch, file), doneIn(epoch, other))
		checkExplained(t, "one less", false, doneIn(epoch+1, file), doneIn(epoch, other))
		checkExplained(t, "less than one further ahead", false, doneIn(epoch+1, file), doneIn(epoch+1, dropOp("/a")), syncOf(0), doneIn(epoch, other))
		// An era ahead may have been of later epochs.
		checkExplained(t, "less than one of an era ahead", true, doneIn(epoch+1, file), again(9999), doneIn(epoch, other))
		checkExplained(t, "less than a lost one of an era ahead", true, doneIn(epoch+1, file), again(max(epoch, 2)), doneIn(epoch, other))
		checkExplained(t, "less than one of its own era", false, doneIn(epoch, file), again(9999), doneIn(epoch+1, other), doneIn(epoch, dropOp("/b")))
	}
	// What is no mutation has no epoch that counts.
	late := codeNote(other, impl.ErrFull)
	late.Epoch = 9
	checkExplained(t, "behind a late end with a code", true, doneIn(3, file), notesOf(late), doneIn(3, other))
	checkExplained(t, "behind a late sync", true, doneIn(3, file), doneIn(9, syncOp()), doneIn(3, other))
	checkExplained(t, "behind a late beginning", true, doneIn(3, file), notesOf(impl.Note{Kind: impl.NoteBegin, Epoch: 9, Op: other}), doneIn(3, other))
	checkExplained(t, "the epochs of two threads", false, notesOf(endNote(0, file, 4), endNote(1, other, 3)))
}

func TestComingUpAgain(t *testing.T) {
	checkExplained(t, "a crash", true, someDone(), notesOf(crashNote()))
	checkExplained(t, "two crashes", true, someDone(), notesOf(crashNote(), crashNote()))
	for clock := range int64(8) {
		checkExplained(t, "up behind a crash", clock >= 2, someDone(), again(clock))
		checkExplained(t, "up behind two", clock >= 2, someDone(), notesOf(crashNote()), again(clock))
		checkExplained(t, "up while it is up", false, someDone(), notesOf(upNote(clock)))
		checkExplained(t, "up twice", false, someDone(), again(5), notesOf(upNote(clock)))
		checkExplained(t, "up again and again", clock >= 2, someDone(), again(5), again(clock))
		checkExplained(t, "up at first", false, notesOf(upNote(clock)))
		checkExplained(t, "a crash at first", clock >= 2, again(clock))
	}
	checkExplained(t, "the last clock", true, someDone(), again(9999))
}

func TestWhatASyncThatCameBackAsksOfAnUp(t *testing.T) {
	for _, epoch := range []int64{1, 2, 3, 500, 9997} {
		file := madeBy(0, epoch, "/a")
		for clock := max(epoch-1, 2); clock <= min(epoch+4, 9999); clock++ {
			sure := clock >= epoch+2
			checkExplained(t, "it came back", sure, file, syncOf(1), again(clock))
			checkExplained(t, "it came back, and it crashed twice", sure, file, syncOf(1), notesOf(crashNote()), again(clock))
			checkExplained(t, "something else is not synced", sure, file, syncOf(1), madeBy(0, min(epoch+3, 9999), "/b"), again(clock))
			checkExplained(t, "cut off", true, file, notesOf(beginNote(1, syncOp())), again(clock))
			checkExplained(t, "no sync", true, file, again(clock))
			checkExplained(t, "a sync of nothing", true, syncOf(1), file, again(clock))
			checkExplained(t, "an era ahead", true, file, syncOf(1), again(9999), again(clock))
			checkExplained(t, "an era ahead and a sync", true, file, again(9999), syncOf(1), again(clock))
			checkExplained(t, "in the second era", sure, again(3), file, syncOf(1), again(clock))
		}
	}
	// Such a late epoch is never sure: no clock is two more.
	for _, epoch := range []int64{9998, 9999} {
		checkExplained(t, "never sure", false, madeBy(0, epoch, "/a"), syncOf(1), again(9999))
	}
	checkExplained(t, "the greatest of several", false, madeBy(0, 2, "/a"), syncOf(1), madeBy(0, 3, "/b"), syncOf(2), again(4))
	checkExplained(t, "the greatest of several", true, madeBy(0, 2, "/a"), syncOf(1), madeBy(0, 3, "/b"), syncOf(2), again(5))
}

func TestEachNoteIsAskedUpToTheLastOne(t *testing.T) {
	var notes []impl.Note
	for range 150 {
		notes = append(notes, doneIn(2, makeFile("/a"), writeOp("/a", 0, 1, 2, 3, 4), dropOp("/a"))...)
		notes = append(notes, repliedNote(listOp("/"), impl.Reply{}))
	}
	checkIsExplained(t, "600", notes, true)
	for _, at := range []int{0, 1, 2, 3, 300, 596, 597, 598, 599} {
		other := slices.Clone(notes)
		other[at] = codeNote(other[at].Op, 9)
		checkIsExplained(t, "one of 600 is wrong", other, false)
	}
	checkIsExplained(t, "601", append(notes, crashNote()), false)
	checkIsExplained(t, "far too many", slices.Repeat(notesOf(crashNote()), 100000), false)
	for _, far := range []int64{math.MinInt64, math.MaxInt64} {
		checkIsExplained(t, "a far Epoch", notesOf(crashNote(), upNote(far)), false)
		checkIsExplained(t, "a far Code", notesOf(codeNote(makeFile("/a"), far)), false)
	}
}
