package tests

import (
	"math"
	"slices"
	"testing"

	"loop.example/g00691/impl"
)

// checkCodeOfNotes: all functions that have codes tell this one of the notes, whatever the clock is, and they are not explained.
func checkCodeOfNotes(t *testing.T, what string, notes []impl.Note, code int64) {
	t.Helper()
	checkNotesFault(t, what, notes, code)
	checkItemsResult(t, what+": ItemsNow", impl.ItemsNow(notes), impl.ItemsResult{Code: code})
	for _, clock := range []int64{math.MinInt64, -1, 1, 2, 9999, 10000, math.MaxInt64} {
		checkItemsResult(t, what+": ItemsAfter", impl.ItemsAfter(notes, clock), impl.ItemsResult{Code: code})
	}
	checkSynced(t, what, notes, impl.IntResult{Code: code})
	checkIsExplained(t, what, notes, false)
}

func TestNotesWithoutAFault(t *testing.T) {
	checkNotesFault(t, "nil", nil, 0)
	checkNotesFault(t, "none", []impl.Note{}, 0)
	checkNotesFault(t, "one of each kind", rightNotes(), 0)
	for _, n := range rightNotes() {
		checkNotesFault(t, "a right one", notesOf(n), 0)
		n.Op.Numbers = append([]int64{}, n.Op.Numbers...)
		n.Reply.Numbers = append([]int64{}, n.Reply.Numbers...)
		n.Reply.Names = append([]string{}, n.Reply.Names...)
		checkNotesFault(t, "empty lists", notesOf(n), 0)
	}
	for who := range int64(4) {
		checkNotesFault(t, "a thread", notesOf(beginNote(who, syncOp()), endNote(who, syncOp(), 0)), 0)
	}
	for _, epoch := range []int64{0, 1, 2, 9998, 9999} {
		checkNotesFault(t, "an epoch", notesOf(upNote(epoch), endNote(0, syncOp(), epoch), impl.Note{Kind: impl.NoteCrash, Epoch: epoch}, impl.Note{Kind: impl.NoteBegin, Epoch: epoch, Op: syncOp()}), 0)
	}
	for code := range int64(10) {
		checkNotesFault(t, "a code", notesOf(codeNote(syncOp(), code), codeNote(makeFile("/a"), code)), 0)
	}
	for _, many := range []int{0, 1, 15, 16} {
		checkNotesFault(t, "numbers", notesOf(repliedNote(syncOp(), impl.Reply{Numbers: slices.Repeat([]int64{9999}, many)})), 0)
	}
	for _, many := range []int{0, 1, 59, 60} {
		checkNotesFault(t, "names", notesOf(repliedNote(readOp("/"), impl.Reply{Names: slices.Repeat([]string{"abcdef"}, many)})), 0)
	}
	// A reply need not be one of its op: that is no fault of the form.
	checkNotesFault(t, "all of a reply", notesOf(repliedNote(dropOp("/a"), impl.Reply{Code: 9, Numbers: make([]int64, 16), Names: []string{"b", "a", "a"}})), 0)
}

func TestHowManyNotesThereMayBe(t *testing.T) {
	for _, n := range notesOf(crashNote(), endNote(0, syncOp(), 0), beginNote(2, makeDir("/a"))) {
		for _, many := range []int{599, 600} {
			checkNotesFault(t, "not too many", slices.Repeat(notesOf(n), many), 0)
		}
		for _, many := range []int{601, 602, 100000} {
			checkCodeOfNotes(t, "too many", slices.Repeat(notesOf(n), many), impl.ErrMany)
		}
	}
	// How many there are is asked ahead of each of them.
	for _, n := range notesOf(impl.Note{}, impl.Note{Kind: 5}, upNote(-1), endNote(9, syncOp(), 0)) {
		checkCodeOfNotes(t, "too many that have a fault", slices.Repeat(notesOf(n), 601), impl.ErrMany)
	}
	for _, faulty := range faultyNotes() {
		if faulty.code != impl.ErrMany {
			checkNotesFault(t, "600 of them", slices.Repeat(notesOf(faulty.note), 600), faulty.code)
		}
	}
}

func TestEachFaultOfANote(t *testing.T) {
	right := rightNotes()
	for _, faulty := range faultyNotes() {
		checkNotesFault(t, faulty.what, notesOf(faulty.note), noteFaultByRule(faulty.note))
		checkCodeOfNotes(t, faulty.what, notesOf(faulty.note), faulty.code)
		checkCodeOfNotes(t, faulty.what+", ahead of others", slices.Concat(notesOf(faulty.note), right), faulty.code)
		checkCodeOfNotes(t, faulty.what+", behind others", slices.Concat(right, notesOf(faulty.note)), faulty.code)
		checkNotesFault(t, faulty.what+", between others", slices.Concat(right[:7], notesOf(faulty.note), right[7:]), faulty.code)
		checkNotesFault(t, faulty.what+", the last one of 600", append(slices.Repeat(notesOf(crashNote()), 599), faulty.note), faulty.code)
	}
}

func TestAllOfOneNoteIsAskedAheadOfTheNextOne(t *testing.T) {
	all := faultyNotes()
	for _, first := range all {
		for _, second := range all {
			checkNotesFault(t, first.what+", then "+second.what, notesOf(crashNote(), first.note, second.note), first.code)
		}
	}
}

func TestTheCodesOfOneNoteAreAskedInTheirOrder(t *testing.T) {
	all := spoilers()
	for _, first := range all {
		for _, second := range all {
			if first.rank >= second.rank {
				continue
			}
			n := endNote(1, writeOp("/a", 0, 1, 2, 3, 4), 3)
			second.spoil(&n)
			first.spoil(&n)
			what := first.what + " and " + second.what
			checkNotesFault(t, what, notesOf(n), noteFaultByRule(n))
			checkNotesFault(t, what, notesOf(upNote(2), n), first.code)
		}
	}
	// What a kind may not have is asked ahead of all else.
	ofNoOp, ofNoEnd := notZero()
	for _, epoch := range []int64{-1, 10000} {
		for _, turn := range slices.Concat(ofNoOp, ofNoEnd) {
			n := upNote(epoch)
			turn(&n)
			checkNotesFault(t, "an up", notesOf(n), impl.ErrForm)
			n.Kind = impl.NoteCrash
			checkNotesFault(t, "a crash", notesOf(n), impl.ErrForm)
		}
		for _, turn := range ofNoEnd {
			for _, ops := range faultyOps() {
				n := impl.Note{Kind: impl.NoteBegin, Who: 4, Epoch: epoch, Op: ops[0]}
				turn(&n)
				checkNotesFault(t, "a begin", notesOf(n), impl.ErrForm)
			}
		}
	}
}

func TestNumbersOfNotesFarOutOfTheirBounds(t *testing.T) {
	for _, far := range []int64{math.MinInt64, math.MinInt64 + 1, math.MaxInt64 - 1, math.MaxInt64} {
		checkCodeOfNotes(t, "Kind", notesOf(impl.Note{Kind: far}), impl.ErrForm)
		checkCodeOfNotes(t, "Who", notesOf(endNote(far, syncOp(), 0)), impl.ErrRange)
		checkCodeOfNotes(t, "Who of a crash", notesOf(impl.Note{Kind: impl.NoteCrash, Who: far}), impl.ErrForm)
		checkCodeOfNotes(t, "Epoch", notesOf(upNote(far)), impl.ErrRange)
		checkCodeOfNotes(t, "Epoch of an end", notesOf(endNote(0, syncOp(), far)), impl.ErrRange)
		checkCodeOfNotes(t, "Code", notesOf(codeNote(syncOp(), far)), impl.ErrRange)
		checkCodeOfNotes(t, "a Number", notesOf(repliedNote(syncOp(), impl.Reply{Numbers: []int64{far}})), impl.ErrRange)
		checkCodeOfNotes(t, "an op's Kind", notesOf(beginNote(0, impl.Op{Kind: far})), impl.ErrForm)
		checkCodeOfNotes(t, "an op's Index", notesOf(beginNote(0, cutOp("/a", far))), impl.ErrRange)
	}
	for _, name := range notNames() {
		checkCodeOfNotes(t, "a Name", notesOf(repliedNote(listOp("/"), impl.Reply{Names: []string{"a", name}})), impl.ErrText)
	}
	checkCodeOfNotes(t, "many Numbers", notesOf(repliedNote(syncOp(), impl.Reply{Numbers: make([]int64, 100000)})), impl.ErrMany)
	checkCodeOfNotes(t, "many Names", notesOf(repliedNote(syncOp(), impl.Reply{Names: make([]string, 100000)})), impl.ErrMany)
}

func TestNumbersAreAskedAheadOfNames(t *testing.T) {
	n := repliedNote(syncOp(), impl.Reply{Numbers: []int64{1, 2, 10000}, Names: []string{"A"}})
	checkNotesFault(t, "both", notesOf(n), impl.ErrRange)
	n.Reply.Numbers = make([]int64, 16)
	checkNotesFault(t, "a Name", notesOf(n), impl.ErrText)
	n.Reply.Numbers = make([]int64, 17)
	checkNotesFault(t, "17 Numbers", notesOf(n), impl.ErrMany)
}
